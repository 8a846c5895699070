import PyProof.Rows.All
import PySem.Challenge.RW_ringshores_k26_rings_and_shores_by_hand
import HandS.ForMost
import HandS.ForExc
import HandS.IsInst
import HandS.TupAny
import HandS.Deep
import HandS.TupLe
import HandS.TupMul
import HandS.Style
import HandS.Dict
import KE.SortData
import PyProof.TupleOfSeq
import HandS.Text
import HandS.RaiseMore
import KE.KTupSum
import KE.DataMinMax
import HandS.SetFor
import HandS.Iter
import HandS.Zip
import KE.GoesMore
import KE.KItemsList
import HandS.Small
import HandS.DictComp
import HandS.TryOnly
import HandS.Conv
import HandS.Strs
import HandS.More
import HandS.Ends
import HandS.EndBits
set_option Elab.async false
set_option linter.all false
set_option maxRecDepth 100000
namespace PV
open PySem PySem.Spec PyProof.Rows L2
abbrev Fg := PySem.W.Frag

def kD : Key → PyData
  | .inl i => .int i
  | .inr x => .str x

/-- the script, told apart from other lists -/
def scrD (ns : List Int) : PyData := .dict [(.none, .list (ns.map .int))]
mutual
/-- v tells the data d, by what stands at H -/
inductive Dn (K : Fg) (H : Hp) : V → PyData → Prop
  | non : Dn K H .non .none
  | bl (b : Bool) : Dn K H (.bl b) (.bool b)
  | int (i : Int) : Dn K H (.int i) (.int i)
  | str (x : Str) : Dn K H (.str x) (.str x)
  | lst {a : Addr} {vs : List V} {ds : List PyData} : H a = some (.lst vs) → DnA K H vs ds → Dn K H (.ref a) (.list ds)
  | tup {a : Addr} {vs : List V} {ds : List PyData} : SqT K H a vs → DnA K H vs ds → Dn K H (.ref a) (.tuple ds)
  | dct {a : Addr} {kvs : List (Key × V)} {es : List (PyData × PyData)} : H a = some (.dK kvs) → DnK K H kvs es → Dn K H (.ref a) (.dict es)
  | scr {a : Addr} (ns : List Int) : SqL K H a (ns.map V.int) → Dn K H (.ref a) (scrD ns)
inductive DnA (K : Fg) (H : Hp) : List V → List PyData → Prop
  | nil : DnA K H [] []
  | cons {v : V} {vs : List V} {d : PyData} {ds : List PyData} : Dn K H v d → DnA K H vs ds → DnA K H (v :: vs) (d :: ds)
inductive DnK (K : Fg) (H : Hp) : List (Key × V) → List (PyData × PyData) → Prop
  | nil : DnK K H [] []
  | cons {k : Key} {v : V} {kvs : List (Key × V)} {d : PyData} {es : List (PyData × PyData)} : Dn K H v d → DnK K H kvs es → DnK K H ((k, v) :: kvs) ((kD k, d) :: es)
end

section
variable {K : Fg} {H H' : Hp}
theorem sqT_same {a : Addr} {vs : List V} (e : Same H H') (h : SqT K H a vs) : SqT K H' a vs := by
  rcases h with (h | ⟨o, h⟩) | h
  · exact .inl (.inl (e _ _ h))
  · exact .inl (.inr ⟨o, e _ _ h⟩)
  · exact .inr h
mutual
theorem Dn.mono (e : Same H H') : ∀ (d : PyData) (v : V), Dn K H v d → Dn K H' v d
  | .none, _, h => by cases h; exact .non
  | .bool b, _, h => by cases h; exact .bl _
  | .int i, _, h => by cases h; exact .int _
  | .str x, _, h => by cases h; exact .str _
  | .list ds, _, h => by
    cases h with
    | lst a b => exact .lst (e _ _ a) (DnA.mono e ds _ b)
  | .tuple ds, _, h => by
    cases h with
    | tup a b => exact .tup (sqT_same e a) (DnA.mono e ds _ b)
  | .dict es, _, h => by
    cases h with
    | dct a b => exact .dct (e _ _ a) (DnK.mono e es _ b)
    | scr ns a => exact .scr ns (e.seq a)
theorem DnA.mono (e : Same H H') : ∀ (ds : List PyData) (vs : List V), DnA K H vs ds → DnA K H' vs ds
  | [], _, h => by cases h; exact .nil
  | d :: ds, _, h => by
    cases h with
    | cons a b => exact .cons (Dn.mono e d _ a) (DnA.mono e ds _ b)
theorem DnK.mono (e : Same H H') : ∀ (es : List (PyData × PyData)) (kvs : List (Key × V)), DnK K H kvs es → DnK K H' kvs es
  | [], _, h => by cases h; exact .nil
  | (k, d) :: es, _, h => by
    cases h with
    | cons a b => exact .cons (Dn.mono e d _ a) (DnK.mono e es _ b)
end
theorem DnA.length : ∀ {vs : List V} {ds : List PyData}, DnA K H vs ds → vs.length = ds.length
  | _, _, .nil => rfl
  | _, _, .cons _ b => congrArg (· + 1) (DnA.length b)
theorem DnA.get : ∀ {vs : List V} {ds : List PyData} {i : Nat} {d : PyData}, DnA K H vs ds → ds[i]? = some d → ∃ v, vs[i]? = some v ∧ Dn K H v d
  | _, _, _, _, .nil, e => by simp at e
  | _, _, 0, _, .cons a _, e => by simp at e; subst e; exact ⟨_, rfl, a⟩
  | _, _, i + 1, d, .cons _ b, e => by
    obtain ⟨v, h1, h2⟩ := DnA.get (i := i) (d := d) b (by simpa using e)
    exact ⟨v, by simpa using h1, h2⟩
theorem DnA.append : ∀ {vs ws : List V} {ds es : List PyData}, DnA K H vs ds → DnA K H ws es → DnA K H (vs ++ ws) (ds ++ es)
  | _, _, _, _, .nil, s => s
  | _, _, _, _, .cons a b, s => .cons a (DnA.append b s)
theorem DnA.take : ∀ {vs : List V} {ds : List PyData} (n : Nat), DnA K H vs ds → DnA K H (vs.take n) (ds.take n)
  | _, _, 0, _ => by simp only [List.take_zero]; exact .nil
  | _, _, _ + 1, .nil => .nil
  | _, _, n + 1, .cons a b => .cons a (DnA.take n b)
theorem DnA.drop : ∀ {vs : List V} {ds : List PyData} (n : Nat), DnA K H vs ds → DnA K H (vs.drop n) (ds.drop n)
  | _, _, 0, r => r
  | _, _, _ + 1, .nil => .nil
  | _, _, n + 1, .cons _ b => DnA.drop n b
theorem DnA.reverse : ∀ {vs : List V} {ds : List PyData}, DnA K H vs ds → DnA K H vs.reverse ds.reverse
  | _, _, .nil => .nil
  | _, _, .cons a b => by rw [List.reverse_cons, List.reverse_cons]; exact (DnA.reverse b).append (.cons a .nil)
theorem DnA.set {v : V} {d : PyData} (h : Dn K H v d) : ∀ {vs : List V} {ds : List PyData} (i : Nat), DnA K H vs ds → DnA K H (vs.set i v) (ds.set i d)
  | _, _, _, .nil => .nil
  | _, _, 0, .cons _ b => .cons h b
  | _, _, i + 1, .cons a b => .cons a (DnA.set h i b)
theorem DnA.rep {vs : List V} {ds : List PyData} (h : DnA K H vs ds) : ∀ n : Nat, DnA K H (List.replicate n vs).flatten (List.replicate n ds).flatten
  | 0 => .nil
  | n + 1 => by rw [List.replicate_succ, List.replicate_succ, List.flatten_cons, List.flatten_cons]; exact h.append (DnA.rep h n)
theorem DnA.nil_iff {vs : List V} {ds : List PyData} (h : DnA K H vs ds) : vs = [] ↔ ds = [] := by
  cases h with
  | nil => exact ⟨(fun _ => rfl), (fun _ => rfl)⟩
  | cons a b => exact ⟨(fun z => nomatch z), (fun z => nomatch z)⟩
theorem DnA.ints : ∀ (ns : List Int), DnA K H (ns.map V.int) (ns.map PyData.int)
  | [] => .nil
  | _ :: r => .cons (.int _) (DnA.ints r)
end

/-! ### names -/
/-- what is known of a name: nothing; data that stands still; a list, a dict of its own that this name alone bears -/
inductive Sl where
  | un
  | sh (d : PyData)
  | ow (ds : List PyData)
  | od (es : List (PyData × PyData))
abbrev Ev := List Sl
def Ev.at (e : Ev) (i : Nat) : Sl := e.getD i .un
def Sl.own : Sl → Bool
  | .ow _ => true
  | .od _ => true
  | _ => false

/-- a def's run: the heap and what stands still at its entry; the list that it may change for its caller -/
structure Bs where
  H0 : Hp
  R0 : Hp
  io : Option Addr

def nm (σ : L2.St) (i : Nat) : Option V := (σ[i]?).join

def SlR (K : Fg) (R H : Hp) (o : Option V) : Sl → Prop
  | .un => True
  | .sh d => ∃ v, o = some v ∧ Dn K R v d
  | .ow ds => ∃ a vs, o = some (.ref a) ∧ R a = none ∧ H a = some (.lst vs) ∧ DnA K R vs ds
  | .od es => ∃ a kvs, o = some (.ref a) ∧ R a = none ∧ H a = some (.dK kvs) ∧ DnK K R kvs es

/-- the address b is borne by a name that owns it -/
def OwnsAt (σ : L2.St) (e : Ev) (b : Addr) : Prop := ∃ i, (e.at i).own = true ∧ nm σ i = some (.ref b)

structure Rel (K : Fg) (B : Bs) (R : Hp) (σ : L2.St) (H : Hp) (e : Ev) : Prop where
  sub : Same R H
  r0 : Same B.R0 R
  sl : ∀ i, SlR K R H (nm σ i) (e.at i)
  inj : ∀ i j a, (e.at i).own = true → (e.at j).own = true → nm σ i = some (.ref a) → nm σ j = some (.ref a) → i = j
  h0 : ∀ b o, B.H0 b = some o → B.io ≠ some b → H b = some o
  new : ∀ a, OwnsAt σ e a → B.H0 a = none ∨ B.io = some a
  pen : ∀ a, B.io = some a → nm σ 0 = some (.ref a) ∧ ∃ ds, e.at 0 = .ow ds
  rn : ∀ b o, R b = some o → B.R0 b = some o ∨ B.H0 b = none
  len : e.length = σ.length

/-- what an expression may do to the names -/
def Tr (e e' : Ev) : Prop := ∀ i, match e.at i with
  | .un => e'.at i = .un
  | .sh d => e'.at i = .sh d
  | .ow _ => (∃ ds, e'.at i = .ow ds) ∨ ∃ ds, e'.at i = .sh (.list ds)
  | .od _ => (∃ es, e'.at i = .od es) ∨ ∃ es, e'.at i = .sh (.dict es)
theorem Tr.refl (e : Ev) : Tr e e := fun i => by
  cases h : e.at i with
  | un => rfl
  | sh d => rfl
  | ow ds => exact .inl ⟨ds, rfl⟩
  | od es => exact .inl ⟨es, rfl⟩
theorem Tr.trans {e e1 e2 : Ev} (a : Tr e e1) (b : Tr e1 e2) : Tr e e2 := fun i => by
  have a := a i
  have b := b i
  cases h : e.at i with
  | un => rw [h] at a; simp only at a; rw [a] at b; exact b
  | sh d => rw [h] at a; simp only at a; rw [a] at b; exact b
  | ow ds =>
    rw [h] at a; simp only at a
    rcases a with ⟨x, a⟩ | ⟨x, a⟩
    · rw [a] at b; exact b
    · rw [a] at b; exact .inr ⟨x, b⟩
  | od es =>
    rw [h] at a; simp only at a
    rcases a with ⟨x, a⟩ | ⟨x, a⟩
    · rw [a] at b; exact b
    · rw [a] at b; exact .inr ⟨x, b⟩
theorem Tr.own {e e' : Ev} (t : Tr e e') {i : Nat} (h : (e'.at i).own = true) : (e.at i).own = true := by
  have t := t i
  cases q : e.at i with
  | un => rw [q] at t; simp only at t; rw [t] at h; cases h
  | sh d => rw [q] at t; simp only at t; rw [t] at h; cases h
  | ow ds => rfl
  | od es => rfl
theorem Tr.owns {e e' : Ev} (t : Tr e e') {σ : L2.St} {b : Addr} (h : OwnsAt σ e' b) : OwnsAt σ e b := let ⟨i, h1, h2⟩ := h; ⟨i, t.own h1, h2⟩
/-- all that no name owns stays -/
def Frm (σ : L2.St) (e : Ev) (H H' : Hp) : Prop := ∀ b o, H b = some o → ¬ OwnsAt σ e b → H' b = some o
theorem Frm.refl {σ : L2.St} {e : Ev} {H : Hp} : Frm σ e H H := fun _ _ h _ => h
theorem Frm.trans {σ : L2.St} {e e1 : Ev} {H H1 H2 : Hp} (a : Frm σ e H H1) (t : Tr e e1) (b : Frm σ e1 H1 H2) : Frm σ e H H2 := fun c o h n => b c o (a c o h n) fun z => n (t.owns z)

/-! ### what an expression gives -/
inductive Rv where
  | sh (d : PyData)
  | fl (ds : List PyData)
  | fd (es : List (PyData × PyData))
  | sl (i : Nat)
inductive Rs (α : Type) where
  | ok (a : α) (e : Ev)
  | ex (c : Str)
  | bad
def Rs.bind {α β : Type} (r : Rs α) (f : α → Ev → Rs β) : Rs β := match r with
  | .ok a e => f a e
  | .ex c => .ex c
  | .bad => .bad
def VR (K : Fg) (B : Bs) (R H : Hp) (σ : L2.St) (e : Ev) (v : V) : Rv → Prop
  | .sh d => Dn K R v d
  | .fl ds => ∃ a vs, v = .ref a ∧ R a = none ∧ H a = some (.lst vs) ∧ DnA K R vs ds ∧ ¬ OwnsAt σ e a ∧ B.H0 a = none
  | .fd es => ∃ a kvs, v = .ref a ∧ R a = none ∧ H a = some (.dK kvs) ∧ DnK K R kvs es ∧ ¬ OwnsAt σ e a ∧ B.H0 a = none
  | .sl i => nm σ i = some v ∧ e.at i ≠ .un
/-- the data of it, as the names stand -/
def res (e : Ev) : Rv → Option PyData
  | .sh d => some d
  | .fl ds => some (.list ds)
  | .fd es => some (.dict es)
  | .sl i => match e.at i with
    | .un => none
    | .sh d => some d
    | .ow ds => some (.list ds)
    | .od es => some (.dict es)
/-- v tells d: it stands still, or its own cell may change but its items stand still -/
inductive Dc (K : Fg) (R H : Hp) : V → PyData → Prop
  | st {v : V} {d : PyData} : Dn K R v d → Dc K R H v d
  | lst {a : Addr} {vs : List V} {ds : List PyData} : H a = some (.lst vs) → DnA K R vs ds → Dc K R H (.ref a) (.list ds)
  | dct {a : Addr} {kvs : List (Key × V)} {es : List (PyData × PyData)} : H a = some (.dK kvs) → DnK K R kvs es → Dc K R H (.ref a) (.dict es)
section
variable {K : Fg} {B : Bs} {R R' H H' : Hp} {σ : L2.St} {e e' : Ev} {v : V} {rv : Rv} {d : PyData}
theorem VR.dc (r : Rel K B R σ H e) (h : VR K B R H σ e v rv) (hd : res e rv = some d) : Dc K R H v d := by
  cases rv with
  | sh x => simp only [res, Option.some.injEq] at hd; subst hd; exact .st h
  | fl ds => simp only [res, Option.some.injEq] at hd; subst hd; obtain ⟨a, vs, rfl, _, h1, h2, _⟩ := h; exact .lst h1 h2
  | fd es => simp only [res, Option.some.injEq] at hd; subst hd; obtain ⟨a, kvs, rfl, _, h1, h2, _⟩ := h; exact .dct h1 h2
  | sl i =>
    obtain ⟨h1, h2⟩ := h
    have s := r.sl i
    simp only [res] at hd
    cases q : e.at i with
    | un => exact absurd q h2
    | sh x =>
      rw [q] at hd s; simp only [Option.some.injEq] at hd; subst hd
      obtain ⟨w, e1, e2⟩ := s
      rw [h1] at e1; cases e1; exact .st e2
    | ow ds =>
      rw [q] at hd s; simp only [Option.some.injEq] at hd; subst hd
      obtain ⟨a, vs, e1, _, e2, e3⟩ := s
      rw [h1] at e1; cases e1; exact .lst e2 e3
    | od es =>
      rw [q] at hd s; simp only [Option.some.injEq] at hd; subst hd
      obtain ⟨a, vs, e1, _, e2, e3⟩ := s
      rw [h1] at e1; cases e1; exact .dct e2 e3
theorem Dc.dn (s : Same R H) (h : Dc K R H v d) : Dn K H v d := by
  cases h with
  | st h => exact h.mono s
  | lst h1 h2 => exact .lst h1 (h2.mono s)
  | dct h1 h2 => exact .dct h1 (h2.mono s)
end
end PV
namespace PV
open PySem PySem.Spec PyProof.Rows L2

/-- a wish about what is raised, by the class's name -/
abbrev Wx := Str → Hp → Prop
def exq (B : Bs) (W : Wx) (c : Str) : Prop := ∀ H', (∀ b o, B.H0 b = some o → B.io ≠ some b → H' b = some o) → W c H'
def After (K : Fg) (B : Bs) (W : Wx) (σ : L2.St) (R H : Hp) (e : Ev) (r : Rs Rv) (Q : VK) : Prop := match r with
  | .ok rv e' => ∀ v R' H', Same R R' → Rel K B R' σ H' e' → Frm σ e H H' → Tr e e' → VR K B R' H' σ e' v rv → Q v H'
  | .ex c => exq B W c
  | .bad => False
def tX (K : Fg) (B : Bs) (W : Wx) (f : Ev → Rs Rv) : TE := fun σ H Q => ∃ R e, Rel K B R σ H e ∧ After K B W σ R H e (f e) Q
/-- the expression's reading is f -/
abbrev DX (X : Cx) (B : Bs) (W : Wx) (a : Expr) (f : Ev → Rs Rv) : Prop := PE X a (tX X.K B W f)
theorem pe_imp {X : Cx} {a : Expr} {t t' : TE} (h : PE X a t) (i : ∀ σ H Q, t' σ H Q → t σ H Q) : PE X a t' := ⟨fun pins s σ H Q I q => h.run pins s σ H Q I (i σ H Q q)⟩
theorem pt_imp {X : Cx} {a : Expr} {t t' : TT} (h : PT X a t) (i : ∀ σ H Q, t' σ H Q → t σ H Q) : PT X a t' := ⟨fun pins s σ H Q I q => h.run pins s σ H Q I (i σ H Q q)⟩
theorem pa_imp {X : Cx} {a : List Expr} {t t' : TA} (h : PA X a t) (i : ∀ σ H Q, t' σ H Q → t σ H Q) : PA X a t' := ⟨fun pos pins s σ H Q I q => h.run pos pins s σ H Q I (i σ H Q q)⟩

section
variable {K : Fg} {B : Bs} {W : Wx} {R R' H H' : Hp} {σ : L2.St} {e e' : Ev} {p : Addr} {o : HO}
theorem same_new {H : Hp} {p : Addr} {o : HO} (h : H p = none) : Same H (upd H p o) := fun b u q => by rw [upd_ne (ne_of_none q h)]; exact q
theorem Rel.rnn (r : Rel K B R σ H e) (h : H p = none) : R p = none := r.sub.free h
theorem Rel.own_at (r : Rel K B R σ H e) {b : Addr} (h : OwnsAt σ e b) : R b = none ∧ ∃ o, H b = some o := by
  obtain ⟨i, h1, h2⟩ := h
  have s := r.sl i
  cases q : e.at i with
  | un => rw [q] at h1; cases h1
  | sh d => rw [q] at h1; cases h1
  | ow ds => rw [q] at s; obtain ⟨a, vs, e1, e2, e3, _⟩ := s; rw [h2] at e1; cases e1; exact ⟨e2, _, e3⟩
  | od es => rw [q] at s; obtain ⟨a, vs, e1, e2, e3, _⟩ := s; rw [h2] at e1; cases e1; exact ⟨e2, _, e3⟩
theorem Rel.h0n (r : Rel K B R σ H e) (h : H p = none) : B.H0 p = none := by
  cases q : B.H0 p with
  | none => rfl
  | some o =>
    by_cases hi : B.io = some p
    · obtain ⟨h1, ds, h2⟩ := r.pen p hi
      obtain ⟨_, o, h3⟩ := r.own_at ⟨0, by rw [h2]; rfl, h1⟩
      rw [h] at h3; cases h3
    · have := r.h0 p o q hi
      rw [h] at this; cases this
theorem Rel.new_sh (r : Rel K B R σ H e) (h : H p = none) : Rel K B (upd R p o) σ (upd H p o) e where
  sub := fun b u q => by
    by_cases hb : b = p
    · subst hb; rw [upd_same] at q ⊢; exact q
    · rw [upd_ne hb] at q ⊢; exact r.sub b u q
  r0 := r.r0.trans (same_new (r.rnn h))
  sl := fun i => by
    have s := r.sl i
    cases q : e.at i with
    | un => trivial
    | sh d => rw [q] at s; obtain ⟨v, h1, h2⟩ := s; exact ⟨v, h1, h2.mono (same_new (r.rnn h))⟩
    | ow ds =>
      rw [q] at s; obtain ⟨a, vs, h1, h2, h3, h4⟩ := s
      have ne : a ≠ p := ne_of_none h3 h
      exact ⟨a, vs, h1, by rw [upd_ne ne]; exact h2, by rw [upd_ne ne]; exact h3, h4.mono (same_new (r.rnn h))⟩
    | od es =>
      rw [q] at s; obtain ⟨a, vs, h1, h2, h3, h4⟩ := s
      have ne : a ≠ p := ne_of_none h3 h
      exact ⟨a, vs, h1, by rw [upd_ne ne]; exact h2, by rw [upd_ne ne]; exact h3, h4.mono (same_new (r.rnn h))⟩
  inj := r.inj
  h0 := fun b u q n => same_new h b u (r.h0 b u q n)
  new := r.new
  pen := r.pen
  rn := fun b u q => by
    by_cases hb : b = p
    · rw [hb]; exact .inr (r.h0n h)
    · rw [upd_ne hb] at q; exact r.rn b u q
  len := r.len
theorem Rel.new_own (r : Rel K B R σ H e) (h : H p = none) : Rel K B R σ (upd H p o) e where
  sub := r.sub.trans (same_new h)
  r0 := r.r0
  sl := fun i => by
    have s := r.sl i
    cases q : e.at i with
    | un => trivial
    | sh d => rw [q] at s; exact s
    | ow ds =>
      rw [q] at s; obtain ⟨a, vs, h1, h2, h3, h4⟩ := s
      exact ⟨a, vs, h1, h2, by rw [upd_ne (ne_of_none h3 h)]; exact h3, h4⟩
    | od es =>
      rw [q] at s; obtain ⟨a, vs, h1, h2, h3, h4⟩ := s
      exact ⟨a, vs, h1, h2, by rw [upd_ne (ne_of_none h3 h)]; exact h3, h4⟩
  inj := r.inj
  h0 := fun b u q n => same_new h b u (r.h0 b u q n)
  new := r.new
  pen := r.pen
  rn := r.rn
  len := r.len
theorem Rel.not_own (r : Rel K B R σ H e) {b : Addr} (h : H b = none) : ¬ OwnsAt σ e b := fun z => by
  obtain ⟨_, o, q⟩ := r.own_at z
  rw [h] at q; cases q
theorem Frm.of_new (h : H p = none) : Frm σ e H (upd H p o) := fun b u q _ => same_new h b u q

/-- what an operation by values is to reach, to give o -/
def ResQ (K : Fg) (R H : Hp) (o : Rv) (Q : VK) : Prop := match o with
  | .sh d => (∀ v, Dn K R v d → Q v H) ∧ ∀ p ob, H p = none → Dn K (upd R p ob) (.ref p) d → Q (.ref p) (upd H p ob)
  | .fl ds => ∀ p vs, H p = none → DnA K R vs ds → Q (.ref p) (upd H p (.lst vs))
  | .fd es => ∀ p kvs, H p = none → DnK K R kvs es → Q (.ref p) (upd H p (.dK kvs))
  | .sl _ => False
theorem resQ_of {o : Rv} {Q : VK} (r : Rel K B R σ H e) (hs : ∀ i, o ≠ .sl i) (h : After K B W σ R H e (.ok o e) Q) : ResQ K R H o Q := by
  have h : ∀ v R' H', Same R R' → Rel K B R' σ H' e → Frm σ e H H' → Tr e e → VR K B R' H' σ e v o → Q v H' := h
  cases o with
  | sh d => exact ⟨fun v hv => h v R H (Same.refl _) r .refl (.refl _) hv, fun p ob hp hv => h _ _ _ (same_new (r.rnn hp)) (r.new_sh hp) (.of_new hp) (.refl _) hv⟩
  | fl ds => exact fun p vs hp hv => h _ R _ (Same.refl _) (r.new_own hp) (.of_new hp) (.refl _) ⟨p, vs, rfl, r.rnn hp, upd_same, hv, r.not_own hp, r.h0n hp⟩
  | fd es => exact fun p vs hp hv => h _ R _ (Same.refl _) (r.new_own hp) (.of_new hp) (.refl _) ⟨p, vs, rfl, r.rnn hp, upd_same, hv, r.not_own hp, r.h0n hp⟩
  | sl i => exact absurd rfl (hs i)
end

/-! ### names and constants -/
def fVar (i : Nat) (e : Ev) : Rs Rv := match e.at i with
  | .un => .bad
  | .sh d => .ok (.sh d) e
  | _ => .ok (.sl i) e
theorem nm_get {σ : L2.St} {i : Nat} {v : V} (h : nm σ i = some v) : σ[i]? = some (some v) := by
  unfold nm at h
  cases q : σ[i]? with
  | none => rw [q] at h; cases h
  | some o => rw [q] at h; cases o with
    | none => cases h
    | some w => cases h; rfl
theorem nm_of {σ : L2.St} {i : Nat} {v : V} (h : σ[i]? = some (some v)) : nm σ i = some v := by unfold nm; rw [h]; rfl
section
variable {X : Cx} {B : Bs} {W : Wx} {a b c : Expr} {fa fb fc : Ev → Rs Rv} {pos : Pos}
theorem dx_var {i : Nat} {x : Str} (hN : X.N[i]? = some x) (hv : Vis X.env.scope x) (hd : (x == ("__debug__" : Str)) = false) (hcd : (x == ("__classdict__" : Str)) = false) : DX X B W (.Name x pos) (fVar i) := by
  refine pe_imp (pe_var hN hv hd hcd) fun σ H Q h => ?_
  obtain ⟨R, e, r, h⟩ := h
  have s := r.sl i
  unfold fVar at h
  cases q : e.at i with
  | un => rw [q] at h; exact h.elim
  | sh d =>
    rw [q] at h s
    obtain ⟨v, h1, h2⟩ := s
    exact ⟨v, nm_get h1, h v R H (Same.refl _) r .refl (.refl _) h2⟩
  | ow ds =>
    rw [q] at h s
    obtain ⟨ad, vs, h1, _⟩ := s
    exact ⟨.ref ad, nm_get h1, h _ R H (Same.refl _) r .refl (.refl _) ⟨h1, by rw [q]; exact fun z => nomatch z⟩⟩
  | od ds =>
    rw [q] at h s
    obtain ⟨ad, vs, h1, _⟩ := s
    exact ⟨.ref ad, nm_get h1, h _ R H (Same.refl _) r .refl (.refl _) ⟨h1, by rw [q]; exact fun z => nomatch z⟩⟩
def fC (d : PyData) (e : Ev) : Rs Rv := .ok (.sh d) e
/-- a value without an object -/
def flatD : PyData → Option V
  | .none => some .non
  | .bool b => some (.bl b)
  | .int i => some (.int i)
  | .str x => some (.str x)
  | _ => none
theorem flatD_dn {K : Fg} {H : Hp} {d : PyData} {v : V} (h : flatD d = some v) : Dn K H v d := by
  cases d <;> simp only [flatD, Option.some.injEq, reduceCtorEq] at h <;> subst h <;> constructor
theorem dx_c {d : PyData} {v : V} (hf : flatD d = some v) (h : PE X a (tC v)) : DX X B W a (fC d) := by
  refine pe_imp h fun σ H Q h => ?_
  obtain ⟨R, e, r, h⟩ := h
  exact h v R H (Same.refl _) r .refl (.refl _) (flatD_dn hf)

/-! ### what a value is made ahead of the next one; a value that others may hold -/
def stab : Rs Rv → Rs Rv
  | .ok (.fl ds) e => .ok (.sh (.list ds)) e
  | .ok (.fd es) e => .ok (.sh (.dict es)) e
  | r => r
def shr (io : Bool) : Rs Rv → Rs Rv
  | .ok (.fl ds) e => .ok (.sh (.list ds)) e
  | .ok (.fd es) e => .ok (.sh (.dict es)) e
  | .ok (.sl i) e => if io && i == 0 then .bad else match e.at i with
    | .ow ds => .ok (.sh (.list ds)) (e.set i (.sh (.list ds)))
    | .od es => .ok (.sh (.dict es)) (e.set i (.sh (.dict es)))
    | .sh d => .ok (.sh d) e
    | .un => .bad
  | r => r
theorem Ev.at_set {e : Ev} {i j : Nat} {s : Sl} (h : e.at i ≠ .un) : Ev.at (e.set i s) j = if j = i then s else e.at j := by
  have hi : i < e.length := by
    by_cases hi : i < e.length
    · exact hi
    · exact absurd (by unfold Ev.at; rw [List.getD_eq_getElem?_getD, List.getElem?_eq_none (by omega)]; rfl) h
  unfold Ev.at
  rw [List.getD_eq_getElem?_getD, List.getD_eq_getElem?_getD]
  by_cases hj : j = i
  · subst hj; rw [if_pos rfl, List.getElem?_set_self hi]; rfl
  · rw [if_neg hj, List.getElem?_set_ne (Ne.symm hj)]
section
variable {K : Fg} {R H : Hp} {σ : L2.St} {e : Ev}
theorem same_R {a : Addr} {o : HO} (hn : R a = none) : Same R (upd R a o) := same_new hn
/-- an object becomes one that stands still -/
theorem Rel.freeze {a : Addr} {o : HO} (r : Rel K B R σ H e) (hn : R a = none) (hH : H a = some o) (ho : ¬ OwnsAt σ e a) (h0 : B.H0 a = none) : Rel K B (upd R a o) σ H e where
  sub := fun b u q => by
    by_cases hb : b = a
    · subst hb; rw [upd_same] at q; cases q; exact hH
    · rw [upd_ne hb] at q; exact r.sub b u q
  r0 := r.r0.trans (same_R hn)
  sl := fun i => by
    have s := r.sl i
    cases q : e.at i with
    | un => trivial
    | sh d => rw [q] at s; obtain ⟨v, h1, h2⟩ := s; exact ⟨v, h1, h2.mono (same_R hn)⟩
    | ow ds =>
      rw [q] at s; obtain ⟨b, vs, h1, h2, h3, h4⟩ := s
      have ne : b ≠ a := fun z => ho ⟨i, by rw [q]; rfl, by rw [← z]; exact h1⟩
      exact ⟨b, vs, h1, by rw [upd_ne ne]; exact h2, h3, h4.mono (same_R hn)⟩
    | od ds =>
      rw [q] at s; obtain ⟨b, vs, h1, h2, h3, h4⟩ := s
      have ne : b ≠ a := fun z => ho ⟨i, by rw [q]; rfl, by rw [← z]; exact h1⟩
      exact ⟨b, vs, h1, by rw [upd_ne ne]; exact h2, h3, h4.mono (same_R hn)⟩
  inj := r.inj
  h0 := r.h0
  new := r.new
  pen := r.pen
  rn := fun b u q => by
    by_cases hb : b = a
    · rw [hb]; exact .inr h0
    · rw [upd_ne hb] at q; exact r.rn b u q
  len := r.len
/-- a name tells otherwise of itself: what it bears stands still, or is not told -/
theorem Rel.tell {i : Nat} {s : Sl} (r : Rel K B R σ H e) (hi : e.at i ≠ .un) (hs : SlR K R H (nm σ i) s) (ho : s.own = false) (hp : B.io = none ∨ i ≠ 0) : Rel K B R σ H (e.set i s) where
  sub := r.sub
  r0 := r.r0
  sl := fun j => by
    rw [Ev.at_set hi]
    by_cases hj : j = i
    · subst hj; rw [if_pos rfl]; exact hs
    · rw [if_neg hj]; exact r.sl j
  inj := fun j k a h1 h2 => by
    rw [Ev.at_set hi] at h1 h2
    by_cases hj : j = i
    · rw [if_pos hj, ho] at h1; cases h1
    · by_cases hk : k = i
      · rw [if_pos hk, ho] at h2; cases h2
      · rw [if_neg hj] at h1; rw [if_neg hk] at h2; exact r.inj j k a h1 h2
  h0 := r.h0
  new := fun a ⟨j, h1, h2⟩ => by
    rw [Ev.at_set hi] at h1
    by_cases hj : j = i
    · rw [if_pos hj, ho] at h1; cases h1
    · rw [if_neg hj] at h1; exact r.new a ⟨j, h1, h2⟩
  pen := fun a ha => by
    rcases hp with z | z
    · rw [z] at ha; cases ha
    · rw [Ev.at_set hi, if_neg (Ne.symm z)]; exact r.pen a ha
  rn := r.rn
  len := by rw [List.length_set]; exact r.len
theorem Rel.share {i : Nat} {a : Addr} {o : HO} {d : PyData} (r : Rel K B R σ H e) (hi : (e.at i).own = true) (hn : nm σ i = some (.ref a)) (hH : H a = some o) (hd : Dn K (upd R a o) (.ref a) d) (hp : B.io = none ∨ i ≠ 0) :
    Rel K B (upd R a o) σ H (e.set i (.sh d)) := by
  have hu : e.at i ≠ .un := fun z => by rw [z] at hi; cases hi
  have hR : R a = none := (r.own_at ⟨i, hi, hn⟩).1
  have r1 : Rel K B R σ H (e.set i .un) := r.tell hu trivial rfl hp
  have no : ¬ OwnsAt σ (e.set i .un) a := fun ⟨j, h1, h2⟩ => by
    rw [Ev.at_set hu] at h1
    by_cases hj : j = i
    · rw [if_pos hj] at h1; cases h1
    · rw [if_neg hj] at h1; exact hj (r.inj j i a h1 hi h2 hn)
  have hz : B.H0 a = none := by
    rcases r.new a ⟨i, hi, hn⟩ with z | z
    · exact z
    · rcases hp with y | y
      · rw [y] at z; cases z
      · obtain ⟨h1, ds, h2⟩ := r.pen a z
        exact absurd (r.inj i 0 a hi (by rw [h2]; rfl) hn h1) y
  have r2 := r1.freeze hR hH no hz
  exact ⟨r2.sub, r2.r0, fun j => by
    have s := r2.sl j
    rw [Ev.at_set hu] at s ⊢
    by_cases hj : j = i
    · rw [if_pos hj]; subst hj; exact ⟨_, hn, hd⟩
    · rw [if_neg hj] at s ⊢; exact s, fun j k b h1 h2 => by
    rw [Ev.at_set hu] at h1 h2
    by_cases hj : j = i
    · rw [if_pos hj] at h1; cases h1
    · by_cases hk : k = i
      · rw [if_pos hk] at h2; cases h2
      · rw [if_neg hj] at h1; rw [if_neg hk] at h2; exact r.inj j k b h1 h2, r2.h0, fun b ⟨j, h1, h2⟩ => by
    rw [Ev.at_set hu] at h1
    by_cases hj : j = i
    · rw [if_pos hj] at h1; cases h1
    · rw [if_neg hj] at h1; exact r.new b ⟨j, h1, h2⟩, fun b hb => by
    rcases hp with z | z
    · rw [z] at hb; cases hb
    · rw [Ev.at_set hu, if_neg (Ne.symm z)]; exact r.pen b hb, r2.rn, by rw [List.length_set]; exact r.len⟩
theorem tr_share {i : Nat} {ds : List PyData} (h : e.at i = .ow ds) : Tr e (e.set i (.sh (.list ds))) := fun j => by
  have hu : e.at i ≠ .un := fun z => by rw [h] at z; cases z
  rw [Ev.at_set hu]
  by_cases hj : j = i
  · subst hj; rw [if_pos rfl, h]; exact .inr ⟨_, rfl⟩
  · rw [if_neg hj]; exact Tr.refl e j
theorem tr_shareD {i : Nat} {ds : List (PyData × PyData)} (h : e.at i = .od ds) : Tr e (e.set i (.sh (.dict ds))) := fun j => by
  have hu : e.at i ≠ .un := fun z => by rw [h] at z; cases z
  rw [Ev.at_set hu]
  by_cases hj : j = i
  · subst hj; rw [if_pos rfl, h]; exact .inr ⟨_, rfl⟩
  · rw [if_neg hj]; exact Tr.refl e j
end
theorem dx_stab (h : DX X B W a fa) : DX X B W a (fun e => stab (fa e)) := by
  refine pe_imp h fun σ H Q h => ?_
  obtain ⟨R, e, r, h⟩ := h
  refine ⟨R, e, r, ?_⟩
  have h : After X.K B W σ R H e (stab (fa e)) Q := h
  cases q : fa e with
  | ex c => rw [q] at h; exact h
  | bad => rw [q] at h; exact h
  | ok rv e' =>
    rw [q] at h
    cases rv with
    | sh d => exact h
    | sl i => exact h
    | fl ds =>
      intro v R' H' s r' fr tr vr
      obtain ⟨ad, vs, rfl, h1, h2, h3, h4, h5⟩ := vr
      exact h _ (upd R' ad (.lst vs)) H' (s.trans (same_new h1)) (r'.freeze h1 h2 h4 h5) fr tr (.lst upd_same (h3.mono (same_new h1)))
    | fd ds =>
      intro v R' H' s r' fr tr vr
      obtain ⟨ad, vs, rfl, h1, h2, h3, h4, h5⟩ := vr
      exact h _ (upd R' ad (.dK vs)) H' (s.trans (same_new h1)) (r'.freeze h1 h2 h4 h5) fr tr (.dct upd_same (h3.mono (same_new h1)))
theorem dx_share {io : Bool} (hio : io = B.io.isSome) (h : DX X B W a fa) : DX X B W a (fun e => shr io (fa e)) := by
  refine pe_imp h fun σ H Q h => ?_
  obtain ⟨R, e, r, h⟩ := h
  refine ⟨R, e, r, ?_⟩
  have h : After X.K B W σ R H e (shr io (fa e)) Q := h
  cases q : fa e with
  | ex c => rw [q] at h; exact h
  | bad => rw [q] at h; exact h
  | ok rv e' =>
    rw [q] at h
    cases rv with
    | sh d => exact h
    | fl ds =>
      intro v R' H' s r' fr tr vr
      obtain ⟨ad, vs, rfl, h1, h2, h3, h4, h5⟩ := vr
      exact h _ (upd R' ad (.lst vs)) H' (s.trans (same_new h1)) (r'.freeze h1 h2 h4 h5) fr tr (.lst upd_same (h3.mono (same_new h1)))
    | fd ds =>
      intro v R' H' s r' fr tr vr
      obtain ⟨ad, vs, rfl, h1, h2, h3, h4, h5⟩ := vr
      exact h _ (upd R' ad (.dK vs)) H' (s.trans (same_new h1)) (r'.freeze h1 h2 h4 h5) fr tr (.dct upd_same (h3.mono (same_new h1)))
    | sl i =>
      intro v R' H' s r' fr tr vr
      obtain ⟨h1, h2⟩ := vr
      simp only [shr] at h
      by_cases hc : (io && i == 0) = true
      · rw [if_pos hc] at h; exact h.elim
      · rw [if_neg hc] at h
        have hp : B.io = none ∨ i ≠ 0 := by
          by_cases hi : i = 0
          · subst hi
            left
            cases hb : B.io with
            | none => rfl
            | some z => rw [hb] at hio; subst hio; exact absurd rfl hc
          · exact .inr hi
        have sl := r'.sl i
        cases qi : e'.at i with
        | un => exact absurd qi h2
        | sh d =>
          rw [qi] at h sl
          obtain ⟨w, e1, e2⟩ := sl
          rw [h1] at e1; cases e1
          exact h v R' H' s r' fr tr e2
        | ow ds =>
          rw [qi] at h sl
          obtain ⟨ad, vs, e1, e2, e3, e4⟩ := sl
          rw [h1] at e1; cases e1
          have hd : Dn X.K (upd R' ad (.lst vs)) (.ref ad) (.list ds) := .lst upd_same (e4.mono (same_new e2))
          exact h _ (upd R' ad (.lst vs)) H' (s.trans (same_new e2)) (r'.share (by rw [qi]; rfl) h1 e3 hd hp) fr (tr.trans (tr_share qi)) hd
        | od ds =>
          rw [qi] at h sl
          obtain ⟨ad, vs, e1, e2, e3, e4⟩ := sl
          rw [h1] at e1; cases e1
          have hd : Dn X.K (upd R' ad (.dK vs)) (.ref ad) (.dict ds) := .dct upd_same (e4.mono (same_new e2))
          exact h _ (upd R' ad (.dK vs)) H' (s.trans (same_new e2)) (r'.share (by rw [qi]; rfl) h1 e3 hd hp) fr (tr.trans (tr_shareD qi)) hd
end
end PV
namespace PV
open PySem PySem.Spec PyProof.Rows L2

/-! ### data that the library reads -/
mutual
/-- no script within -/
def plainD : PyData → Bool
  | .list xs => plainA xs
  | .tuple xs => plainA xs
  | .dict es => plainK es
  | _ => true
def plainA : List PyData → Bool
  | [] => true
  | x :: xs => plainD x && plainA xs
def plainK : List (PyData × PyData) → Bool
  | [] => true
  | (k, x) :: xs => (match k with | .none => false | _ => true) && plainD x && plainK xs
end
mutual
def hasL : PyData → Bool
  | .list _ => true
  | .tuple xs => hasLA xs
  | .dict es => hasLK es
  | _ => false
def hasLA : List PyData → Bool
  | [] => false
  | x :: xs => hasL x || hasLA xs
def hasLK : List (PyData × PyData) → Bool
  | [] => false
  | (_, x) :: xs => hasL x || hasLK xs
end
section
variable {X : Cx} {pins : List (Addr × Obj)} {σ : L2.St} {H : Hp} {s : Shared}
theorem key_reads {w : World} {P : Program} {k : Key} {v : Value} {h : Heap} (e : (mixKind P w).is k v = true) : Reads h v (kD k) [] := by
  have e : keyIs k v = true := e
  rcases keyIs_shape e with ⟨i, t, rfl, rfl⟩ | ⟨x, t, rfl, rfl⟩
  · exact .int _ _
  · exact .str _ _
mutual
theorem Dn.reads (I : Inv X pins σ H s) : ∀ (d : PyData) (v : V) (u : Value), plainD d = true → Dn X.K H v d → RelV v u → ∃ as, Reads s.heap u d as ∧ (H sysModules = none → sysModules ∉ as)
  | .none, _, _, _, h, r => by cases h; cases r; exact ⟨_, .none, fun _ z => nomatch z⟩
  | .bool b, _, _, _, h, r => by cases h; cases r; exact ⟨_, .bool b, fun _ z => nomatch z⟩
  | .int i, _, _, _, h, r => by cases h; obtain ⟨t, rfl⟩ := r; exact ⟨_, .int i t, fun _ z => nomatch z⟩
  | .str x, _, _, _, h, r => by cases h; obtain ⟨t, rfl⟩ := r; exact ⟨_, .str x t, fun _ z => nomatch z⟩
  | .list ds, _, _, hp, h, r => by
    simp only [plainD] at hp
    cases h with
    | @lst a vs _ hs ha =>
      cases r
      obtain ⟨its, rv, ⟨o, n, ho, hc, _, hd⟩, _⟩ := I.list (SqL.of hs)
      obtain ⟨as, hr, hn⟩ := DnA.reads I ds _ its hp ha rv
      exact ⟨_, .list ho hc hd hr, fun z q => by
        rcases List.mem_cons.mp q with e | q
        · rw [e, hs] at z; cases z
        · exact hn z q⟩
  | .tuple ds, _, _, hp, h, r => by
    simp only [plainD] at hp
    cases h with
    | tup hs ha =>
      cases r
      obtain ⟨its, rv, ⟨o, ho, hc, n, hd⟩, _⟩ := I.tuple hs
      obtain ⟨as, hr, hn⟩ := DnA.reads I ds _ its hp ha rv
      exact ⟨_, .tuple ho hc hd hr, hn⟩
  | .dict es, _, _, hp, h, r => by
    simp only [plainD] at hp
    cases h with
    | @dct a kvs _ hs ha =>
      cases r
      obtain ⟨_, hsm, vs, kv, o, es', ep, ho, hx, hd, _, hpr, _⟩ := (show ObjOk X.prog X.w H s.heap a (.dK kvs) from I.hok a _ hs)
      obtain ⟨as, bs, r1, r2, hn⟩ := DnK.reads I es kvs vs es'.toList hp ha kv hpr
      exact ⟨_, .dict ho hx.1 hd r1 r2, fun z q => by
        rcases List.mem_append.mp q with q | q
        · rcases List.mem_cons.mp q with e | q
          · rw [e] at hsm; simp at hsm
          · exact hn z (.inl q)
        · exact hn z (.inr q)⟩
    | scr ns hs => simp [plainK] at hp
theorem DnA.reads (I : Inv X pins σ H s) : ∀ (ds : List PyData) (vs : List V) (us : List Value), plainA ds = true → DnA X.K H vs ds → Vals vs us → ∃ as, ReadsAll s.heap us ds as ∧ (H sysModules = none → sysModules ∉ as)
  | [], _, _, _, h, r => by cases h; cases r; exact ⟨_, .nil, fun _ z => nomatch z⟩
  | d :: ds, _, _, hp, h, r => by
    simp only [plainA, Bool.and_eq_true] at hp
    cases h with
    | cons h1 h2 =>
      cases r with
      | cons r1 r2 =>
        obtain ⟨as, q1, n1⟩ := Dn.reads I d _ _ hp.1 h1 r1
        obtain ⟨bs, q2, n2⟩ := DnA.reads I ds _ _ hp.2 h2 r2
        exact ⟨_, .cons q1 q2, fun z q => by
          rcases List.mem_append.mp q with q | q
          · exact n1 z q
          · exact n2 z q⟩
theorem DnK.reads (I : Inv X pins σ H s) : ∀ (es : List (PyData × PyData)) (kvs : List (Key × V)) (vs : List (Key × Value)) (ents : List DictEntry), plainK es = true → DnK X.K H kvs es → KV kvs vs → Pairs (mixKind X.prog X.w) ents vs →
    ∃ as bs, ReadsAll s.heap (ents.map (·.key)) (es.map (·.1)) as ∧ ReadsAll s.heap (ents.map (·.val)) (es.map (·.2)) bs ∧ (H sysModules = none → ¬ (sysModules ∈ as ∨ sysModules ∈ bs))
  | [], _, _, _, _, h, r, p => by cases h; cases r; cases p; exact ⟨_, _, .nil, .nil, fun _ z => by rcases z with z | z <;> cases z⟩
  | (_, d) :: es, _, _, _, hp, h, r, p => by
    simp only [plainK, Bool.and_eq_true] at hp
    cases h with
    | cons h1 h2 =>
      cases r with
      | @cons _ q _ _ r1 r2 =>
        cases p with
        | cons p1 p2 p3 =>
          obtain ⟨e1, e2⟩ := r1
          simp only at e1 e2
          obtain ⟨as, q1, n1⟩ := Dn.reads I d _ _ hp.1.2 h1 e2
          obtain ⟨as', bs', q2, q3, n2⟩ := DnK.reads I es _ _ _ hp.2 h2 r2 p3
          refine ⟨[] ++ as', as ++ bs', ?_, ?_, ?_⟩
          · refine ReadsAll.cons ?_ q2
            rw [e1]
            exact key_reads p1
          · rw [← p2] at q1
            exact ReadsAll.cons q1 q3
          · rintro z (q | q)
            · exact n2 z (.inl (by simpa using q))
            · rcases List.mem_append.mp q with q | q
              · exact n1 z q
              · exact n2 z (.inr q)
end
end

/-! ### operators by data -/
inductive Od where
  | sh (d : PyData)
  | fl (ds : List PyData)
  | fd (es : List (PyData × PyData))
def Od.rv : Od → Rv
  | .sh d => .sh d
  | .fl ds => .fl ds
  | .fd es => .fd es
def outR (o : Option Od) (e : Ev) : Rs Rv := match o with
  | some o => .ok o.rv e
  | none => .bad
def BinD (K : Fg) (r : R2) (g : PyData → PyData → Option Od) : Prop :=
  ∀ (R H : Hp) (x y : V) (d d' : PyData) (o : Od) (Q : VK), Same R H → Dc K R H x d → Dc K R H y d' → g d d' = some o → ResQ K R H o.rv Q → r x y H Q
def bin2 (g : PyData → PyData → Option Od) (ra rb : Rv) (e : Ev) : Rs Rv := match res e ra, res e rb with
  | some d, some d' => outR (g d d') e
  | _, _ => .bad
def fBin (g : PyData → PyData → Option Od) (fa fb : Ev → Rs Rv) (e : Ev) : Rs Rv := (stab (fa e)).bind fun ra e1 => (fb e1).bind fun rb e2 => bin2 g ra rb e2
theorem Tr.un {e e' : Ev} (t : Tr e e') {i : Nat} (h : e.at i ≠ .un) : e'.at i ≠ .un := by
  have t := t i
  cases q : e.at i with
  | un => exact absurd q h
  | sh d => rw [q] at t; simp only at t; rw [t]; exact fun z => nomatch z
  | ow ds =>
    rw [q] at t; simp only at t
    rcases t with ⟨x, t⟩ | ⟨x, t⟩ <;> (rw [t]; exact fun z => nomatch z)
  | od ds =>
    rw [q] at t; simp only at t
    rcases t with ⟨x, t⟩ | ⟨x, t⟩ <;> (rw [t]; exact fun z => nomatch z)
def isStab : Rv → Bool
  | .sh _ => true
  | .sl _ => true
  | _ => false
theorem stab_ok {r : Rs Rv} {rv : Rv} {e : Ev} (h : stab r = .ok rv e) : isStab rv = true := by
  cases r with
  | ok a e' => cases a <;> simp only [stab, Rs.ok.injEq] at h <;> (obtain ⟨rfl, _⟩ := h; rfl)
  | ex c => simp [stab] at h
  | bad => simp [stab] at h
theorem VR.keep {K : Fg} {R R' H H' : Hp} {σ : L2.St} {e e' : Ev} {v : V} {rv : Rv} (hs : isStab rv = true) (h : VR K B R H σ e v rv) (s : Same R R') (t : Tr e e') : VR K B R' H' σ e' v rv := by
  cases rv with
  | sh d => exact h.mono s
  | sl i => exact ⟨h.1, t.un h.2⟩
  | fl ds => cases hs
  | fd ds => cases hs
section
variable {X : Cx} {B : Bs} {W : Wx} {a b c : Expr} {fa fb fc : Ev → Rs Rv} {pos : Pos}
/-- two operands, from the left -/
theorem two_of {K : Fg} {k : Rv → Rv → Ev → Rs Rv} {σ : L2.St} {H : Hp} {Q : VK} {r : R2}
    (hk : ∀ (R H : Hp) (e : Ev) (x y : V) (ra rb : Rv) (Q : VK), Rel K B R σ H e → VR K B R H σ e x ra → VR K B R H σ e y rb → After K B W σ R H e (k ra rb e) Q → r x y H Q)
    (h : tX K B W (fun e => (stab (fa e)).bind fun ra e1 => (fb e1).bind fun rb e2 => k ra rb e2) σ H Q) : tX K B W (fun e => stab (fa e)) σ H fun x H1 => tX K B W fb σ H1 fun y H2 => r x y H2 Q := by
  obtain ⟨R, e, rl, h⟩ := h
  refine ⟨R, e, rl, ?_⟩
  have h : After K B W σ R H e ((stab (fa e)).bind fun ra e1 => (fb e1).bind fun rb e2 => k ra rb e2) Q := h
  show After K B W σ R H e (stab (fa e)) _
  cases q : stab (fa e) with
  | ex c => rw [q] at h; exact h
  | bad => rw [q] at h; exact h
  | ok ra e1 =>
    rw [q] at h
    intro x R1 H1 s1 r1 f1 t1 v1
    refine ⟨R1, e1, r1, ?_⟩
    have h : After K B W σ R H e ((fb e1).bind fun rb e2 => k ra rb e2) Q := h
    cases q2 : fb e1 with
    | ex c => rw [q2] at h; exact h
    | bad => rw [q2] at h; exact h
    | ok rb e2 =>
      rw [q2] at h
      intro y R2 H2 s2 r2 f2 t2 v2
      refine hk R2 H2 e2 x y ra rb Q r2 (v1.keep (stab_ok q) s2 t2) v2 ?_
      have h : After K B W σ R H e (k ra rb e2) Q := h
      cases q3 : k ra rb e2 with
      | ex c => rw [q3] at h; exact h
      | bad => rw [q3] at h; exact h
      | ok rc e3 =>
        rw [q3] at h
        intro z R3 H3 s3 r3 f3 t3 v3
        exact h z R3 H3 (s1.trans (s2.trans s3)) r3 (f1.trans t1 (f2.trans t2 f3)) (t1.trans (t2.trans t3)) v3
theorem bin2_of {K : Fg} {σ : L2.St} {r : R2} {g : PyData → PyData → Option Od} (hg : BinD K r g) (R H : Hp) (e : Ev) (x y : V) (ra rb : Rv) (Q : VK) (rl : Rel K B R σ H e) (va : VR K B R H σ e x ra) (vb : VR K B R H σ e y rb) (h : After K B W σ R H e (bin2 g ra rb e) Q) : r x y H Q := by
  unfold bin2 at h
  cases qa : res e ra with
  | none => rw [qa] at h; exact h.elim
  | some d =>
    cases qb : res e rb with
    | none => rw [qa, qb] at h; exact h.elim
    | some d' =>
      rw [qa, qb] at h
      simp only at h
      cases qo : g d d' with
      | none => rw [qo] at h; exact h.elim
      | some o =>
        rw [qo] at h
        exact hg R H x y d d' o Q rl.sub (va.dc rl qa) (vb.dc rl qb) qo (resQ_of rl (fun i => by cases o <;> exact fun z => nomatch z) h)
theorem dx_bin {op : Operator} {r : R2} {g : PyData → PyData → Option Od} (ho : OpR X (binaryOp op) r) (hg : BinD X.K r g) (ha : DX X B W a fa) (hb : DX X B W b fb) : DX X B W (.BinOp a op b pos) (fBin g fa fb) :=
  pe_imp (pe_op ho (dx_stab ha) hb) fun _ _ _ h => two_of (bin2_of hg) h
theorem dx_cmp {op : CmpOp} {r : R2} {g : PyData → PyData → Option Od} (ho : OpR X (compareOp op) r) (hg : BinD X.K r g) (hm : behindInMarks op b = false) (ha : DX X B W a fa) (hb : DX X B W b fb) : DX X B W (.Compare a [op] [b] pos) (fBin g fa fb) :=
  pe_imp (pe_cmpR ho (dx_stab ha) hb hm) fun _ _ _ h => two_of (bin2_of hg) h
end

/-! ### the operators' data -/
def line : Nat := 16777216
theorem line_eq : sizeLine = line := sizeLine_eq
def gAdd : PyData → PyData → Option Od
  | .int a, .int b => some (.sh (.int (a + b)))
  | .str a, .str b => if a.length + b.length ≤ line then some (.sh (.str (a ++ b))) else none
  | .tuple a, .tuple b => if a.length + b.length ≤ line then some (.sh (.tuple (a ++ b))) else none
  | .list a, .list b => if a.length + b.length ≤ line then some (.fl (a ++ b)) else none
  | _, _ => none
def rAddA (K : Fg) : R2 := fun x y H Q => (∃ i j, x = .int i ∧ y = .int j ∧ Q (.int (i + j)) H) ∨ (∃ i j, x = .str i ∧ y = .str j ∧ i.length + j.length ≤ sizeLine ∧ Q (.str (i ++ j)) H) ∨ rCatA K x y H Q ∨ rCat x y H Q
theorem op_addA {X : Cx} : OpR X (binaryOp .Add) (rAddA X.K) := OpR.or op_add (OpR.or op_add_str (OpR.or op_catA op_cat))
section
variable {K : Fg} {R H : Hp} {v : V}
theorem dc_int {i : Int} (h : Dc K R H v (.int i)) : v = .int i := by cases h with | st h => cases h; rfl
theorem dc_str {i : Str} (h : Dc K R H v (.str i)) : v = .str i := by cases h with | st h => cases h; rfl
theorem dc_bool {i : Bool} (h : Dc K R H v (.bool i)) : v = .bl i := by cases h with | st h => cases h; rfl
theorem dc_none (h : Dc K R H v .none) : v = .non := by cases h with | st h => cases h; rfl
theorem dc_tup {ds : List PyData} (h : Dc K R H v (.tuple ds)) : ∃ a vs, v = .ref a ∧ SqT K R a vs ∧ DnA K R vs ds := by
  cases h with
  | st h => cases h with | tup h1 h2 => exact ⟨_, _, rfl, h1, h2⟩
theorem dc_lst {ds : List PyData} (s : Same R H) (h : Dc K R H v (.list ds)) : ∃ a vs, v = .ref a ∧ H a = some (.lst vs) ∧ DnA K R vs ds := by
  cases h with
  | st h => cases h with | lst h1 h2 => exact ⟨_, _, rfl, s _ _ h1, h2⟩
  | lst h1 h2 => exact ⟨_, _, rfl, h1, h2⟩
end
theorem ite_some {α : Type} {c : Prop} [Decidable c] {x y : α} (h : (if c then some x else none) = some y) : c ∧ x = y := by
  by_cases hc : c
  · rw [if_pos hc] at h; exact ⟨hc, Option.some.inj h⟩
  · rw [if_neg hc] at h; cases h
theorem gAdd_ok {K : Fg} : BinD K (rAddA K) gAdd := by
  intro R H x y d d' o Q s hx hy hg q
  unfold gAdd at hg
  split at hg
  · cases Option.some.inj hg
    rw [dc_int hx, dc_int hy]
    exact .inl ⟨_, _, rfl, rfl, q.1 _ (.int _)⟩
  · obtain ⟨hz, rfl⟩ := ite_some hg
    rw [dc_str hx, dc_str hy]
    exact .inr (.inl ⟨_, _, rfl, rfl, by rw [line_eq]; exact hz, q.1 _ (.str _)⟩)
  · obtain ⟨hz, rfl⟩ := ite_some hg
    obtain ⟨a, vs, rfl, h1, h2⟩ := dc_tup hx
    obtain ⟨b, ws, rfl, h3, h4⟩ := dc_tup hy
    refine .inr (.inr (.inl ⟨a, b, vs, ws, rfl, rfl, sqT_same s h1, sqT_same s h3, by rw [h2.length, h4.length, line_eq]; exact hz, fun e => ?_, fun e1 e2 => ?_, fun e1 e2 p hp => ?_⟩))
    · subst e; cases h2; exact q.1 _ (.tup h3 h4)
    · subst e2; cases h4; rw [List.append_nil] at q; exact q.1 _ (.tup h1 h2)
    · have n := s.free hp
      exact q.2 p _ hp (.tup (SqT.of upd_same) ((h2.append h4).mono (same_new n)))
  · obtain ⟨hz, rfl⟩ := ite_some hg
    obtain ⟨a, vs, rfl, h1, h2⟩ := dc_lst s hx
    obtain ⟨b, ws, rfl, h3, h4⟩ := dc_lst s hy
    exact .inr (.inr (.inr ⟨a, b, vs, ws, rfl, rfl, h1, h3, by rw [h2.length, h4.length, line_eq]; exact hz, fun p hp => q p _ hp (h2.append h4)⟩))
  · cases hg

def gSub : PyData → PyData → Option Od
  | .int a, .int b => some (.sh (.int (a - b)))
  | _, _ => none
theorem gSub_ok {K : Fg} : BinD K (rI0 fun i j => .int (i - j)) gSub := by
  intro R H x y d d' o Q s hx hy hg q
  unfold gSub at hg
  split at hg
  · cases Option.some.inj hg
    rw [dc_int hx, dc_int hy]
    exact ⟨_, _, rfl, rfl, q.1 _ (.int _)⟩
  · cases hg
def big64 : Int := 18446744073709551616
def gMul : PyData → PyData → Option Od
  | .int a, .int b => if (-big64 < a ∧ a < big64) ∨ (-big64 < b ∧ b < big64) then some (.sh (.int (a * b))) else none
  | .tuple a, .int k => if a ≠ [] ∧ 2 ≤ k ∧ k ≤ 1000 ∧ a.length ≤ 1000 then some (.sh (.tuple (List.replicate k.toNat a).flatten)) else none
  | .list a, .int k => if 0 ≤ k ∧ k ≤ 1000 ∧ a.length ≤ 1000 then some (.fl (List.replicate k.toNat a).flatten) else none
  | _, _ => none
def rMulA (K : Fg) : R2 := fun x y H Q => rI CMul (fun i j => .int (i * j)) x y H Q ∨ rRepT K x y H Q ∨ rRep x y H Q
theorem op_mulA {X : Cx} : OpR X (binaryOp .Mult) (rMulA X.K) := OpR.or op_mul (OpR.or op_repT op_rep)
theorem gMul_ok {K : Fg} : BinD K (rMulA K) gMul := by
  intro R H x y d d' o Q s hx hy hg q
  unfold gMul at hg
  split at hg
  · obtain ⟨hz, rfl⟩ := ite_some hg
    rw [dc_int hx, dc_int hy]
    exact .inl ⟨_, _, rfl, rfl, hz, q.1 _ (.int _)⟩
  · obtain ⟨⟨h0, h1, h2, h3⟩, rfl⟩ := ite_some hg
    obtain ⟨a, vs, rfl, e1, e2⟩ := dc_tup hx
    rw [dc_int hy]
    refine .inr (.inl ⟨a, _, vs, rfl, rfl, sqT_same s e1, fun z => h0 (e2.nil_iff.mp z), h1, h2, by rw [e2.length]; exact h3, fun p hp => ?_⟩)
    exact q.2 p _ hp (.tup (SqT.of upd_same) ((e2.rep _).mono (same_new (s.free hp))))
  · obtain ⟨⟨h1, h2, h3⟩, rfl⟩ := ite_some hg
    obtain ⟨a, vs, rfl, e1, e2⟩ := dc_lst s hx
    rw [dc_int hy]
    refine .inr (.inr ⟨a, _, vs, rfl, rfl, e1, by omega, by omega, ?_, fun p hp => q p _ hp (e2.rep _)⟩)
    rw [e2.length, line_eq]
    exact Nat.le_trans (Nat.mul_le_mul h3 (show _ ≤ 1000 by omega)) (by decide)
  · cases hg
def gDiv : PyData → PyData → Option Od
  | .int a, .int b => if 0 < b ∧ b < 1073741824 then some (.sh (.int (a / b))) else none
  | _, _ => none
theorem gDiv_ok {K : Fg} : BinD K (rI CDiv fun i j => .int (i / j)) gDiv := by
  intro R H x y d d' o Q s hx hy hg q
  unfold gDiv at hg
  split at hg
  · obtain ⟨hz, rfl⟩ := ite_some hg
    rw [dc_int hx, dc_int hy]
    exact ⟨_, _, rfl, rfl, hz, q.1 _ (.int _)⟩
  · cases hg
def gMod : PyData → PyData → Option Od
  | .int a, .int b => if 0 < b then some (.sh (.int (a % b))) else none
  | _, _ => none
theorem gMod_ok {K : Fg} : BinD K (rI (fun _ j => 0 < j) fun i j => .int (i % j)) gMod := by
  intro R H x y d d' o Q s hx hy hg q
  unfold gMod at hg
  split at hg
  · obtain ⟨hz, rfl⟩ := ite_some hg
    rw [dc_int hx, dc_int hy]
    exact ⟨_, _, rfl, rfl, hz, q.1 _ (.int _)⟩
  · cases hg
def gPow : PyData → PyData → Option Od
  | .int a, .int b => if 0 ≤ b ∧ b ≤ 1000 ∧ a.natAbs < 18446744073709551616 then some (.sh (.int (a ^ b.toNat))) else none
  | _, _ => none
theorem gPow_ok {K : Fg} : BinD K (rI CPow fun i j => .int (i ^ j.toNat)) gPow := by
  intro R H x y d d' o Q s hx hy hg q
  unfold gPow at hg
  split at hg
  · obtain ⟨⟨h1, h2, h3⟩, rfl⟩ := ite_some hg
    rw [dc_int hx, dc_int hy]
    exact ⟨_, _, rfl, rfl, ⟨h1, by omega, h3⟩, q.1 _ (.int _)⟩
  · cases hg

/-! ### comparisons -/
def gEq (neg : Bool) (d d' : PyData) : Option Od := if SeqAt.shaped d = true ∧ SeqAt.shaped d' = true then some (.sh (.bool (if neg then !PyData.eqv d d' else PyData.eqv d d'))) else none
mutual
theorem lay_plain : ∀ d : PyData, d.canLay0 = true → plainD d = true
  | .none, _ => rfl
  | .bool _, _ => rfl
  | .int _, _ => rfl
  | .str _, _ => rfl
  | .list xs, h => by simp only [PyData.canLay0] at h; simp only [plainD]; exact lay_plainA xs h
  | .tuple xs, h => by simp only [PyData.canLay0] at h; simp only [plainD]; exact lay_plainA xs h
  | .dict _, h => by simp [PyData.canLay0] at h
theorem lay_plainA : ∀ ds : List PyData, PyData.canLayAll0 ds = true → plainA ds = true
  | [], _ => rfl
  | d :: ds, h => by
    simp only [PyData.canLayAll0, Bool.and_eq_true] at h
    simp only [plainA, Bool.and_eq_true]
    exact ⟨lay_plain d h.1, lay_plainA ds h.2⟩
end
theorem shaped_plain {d : PyData} (h : SeqAt.shaped d = true) : plainD d = true := lay_plain d (SeqAt.canLay_of_shaped h)
def rEqA (K : Fg) (neg : Bool) : R2 := fun x y H Q => ∃ d e, Dn K H x d ∧ Dn K H y e ∧ SeqAt.shaped d = true ∧ SeqAt.shaped e = true ∧ Q (.bl (if neg then !PyData.eqv d e else PyData.eqv d e)) H
theorem op_eqA {X : Cx} (hu : X.A.units + 64 < cLine) : OpR X (compareOp .Eq) (rEqA X.K false) := by
  intro pins s σ H x y v u Q I rx ry h
  obtain ⟨d, e, hd, he, sd, se, q⟩ := h
  obtain ⟨as, r1, _⟩ := Dn.reads I d x v (shaped_plain sd) hd rx
  obtain ⟨bs, r2, _⟩ := Dn.reads I e y u (shaped_plain se) he ry
  exact SeqAt.compareEq_shaped r1 r2 sd se hu ⟨.bl _, H, I, rfl, q⟩
theorem op_neA {X : Cx} (hu : X.A.units + 64 < cLine) : OpR X (compareOp .NotEq) (rEqA X.K true) := by
  intro pins s σ H x y v u Q I rx ry h
  obtain ⟨d, e, hd, he, sd, se, q⟩ := h
  obtain ⟨as, r1, _⟩ := Dn.reads I d x v (shaped_plain sd) hd rx
  obtain ⟨bs, r2, _⟩ := Dn.reads I e y u (shaped_plain se) he ry
  exact SeqAt.compareNe_shaped r1 r2 sd se hu ⟨.bl _, H, I, rfl, q⟩
theorem gEq_ok {K : Fg} {neg : Bool} : BinD K (rEqA K neg) (gEq neg) := by
  intro R H x y d d' o Q s hx hy hg q
  obtain ⟨⟨h1, h2⟩, rfl⟩ := ite_some hg
  exact ⟨d, d', hx.dn s, hy.dn s, h1, h2, q.1 _ (.bl _)⟩
/-- order of whole numbers -/
def gOrd (p : Int → Int → Bool) : PyData → PyData → Option Od
  | .int a, .int b => some (.sh (.bool (p a b)))
  | _, _ => none
theorem gOrd_ok {K : Fg} {p : Int → Int → Bool} : BinD K (rI0 fun i j => .bl (p i j)) (gOrd p) := by
  intro R H x y d d' o Q s hx hy hg q
  unfold gOrd at hg
  split at hg
  · cases Option.some.inj hg
    rw [dc_int hx, dc_int hy]
    exact ⟨_, _, rfl, rfl, q.1 _ (.bl _)⟩
  · cases hg
def intsOf : List PyData → Option (List Int)
  | [] => some []
  | .int i :: r => (intsOf r).map (i :: ·)
  | _ => none
theorem intsOf_eq : ∀ {ds : List PyData} {ns : List Int}, intsOf ds = some ns → ds = ns.map .int
  | [], ns, h => by simp only [intsOf, Option.some.injEq] at h; subst h; rfl
  | .int i :: r, ns, h => by
    simp only [intsOf] at h
    obtain ⟨m, h1, rfl⟩ := Option.map_eq_some_iff.mp h
    rw [intsOf_eq h1]; rfl
  | .none :: _, _, h => by simp [intsOf] at h
  | .bool _ :: _, _, h => by simp [intsOf] at h
  | .str _ :: _, _, h => by simp [intsOf] at h
  | .list _ :: _, _, h => by simp [intsOf] at h
  | .tuple _ :: _, _, h => by simp [intsOf] at h
  | .dict _ :: _, _, h => by simp [intsOf] at h
theorem DnA.of_ints {K : Fg} {H : Hp} : ∀ {ns : List Int} {vs : List V}, DnA K H vs (ns.map .int) → vs = ns.map V.int
  | [], _, h => by cases h; rfl
  | n :: ns, _, h => by
    cases h with
    | cons a b => cases a; rw [DnA.of_ints b]; rfl
def gLt : PyData → PyData → Option Od
  | .int a, .int b => some (.sh (.bool (decide (a < b))))
  | .tuple a, .tuple b => match intsOf a, intsOf b with
    | some x, some y => some (.sh (.bool (HT.lexLt x y)))
    | _, _ => none
  | _, _ => none
def rLtA (K : Fg) : R2 := fun x y H Q => rI0 (fun i j => .bl (decide (i < j))) x y H Q ∨ rLtT K x y H Q
theorem op_ltA {X : Cx} (hu : X.A.units < cLine) : OpR X (compareOp .Lt) (rLtA X.K) := OpR.or op_lt (op_ltT hu)
theorem gLt_ok {K : Fg} : BinD K (rLtA K) gLt := by
  intro R H x y d d' o Q s hx hy hg q
  unfold gLt at hg
  split at hg
  · cases Option.some.inj hg
    rw [dc_int hx, dc_int hy]
    exact .inl ⟨_, _, rfl, rfl, q.1 _ (.bl _)⟩
  · rename_i a b
    cases qa : intsOf a with
    | none => rw [qa] at hg; cases hg
    | some m =>
      cases qb : intsOf b with
      | none => rw [qa, qb] at hg; cases hg
      | some n =>
        rw [qa, qb] at hg
        cases Option.some.inj hg
        cases intsOf_eq qa
        cases intsOf_eq qb
        obtain ⟨p, vs, rfl, h1, h2⟩ := dc_tup hx
        obtain ⟨p', ws, rfl, h3, h4⟩ := dc_tup hy
        cases h2.of_ints
        cases h4.of_ints
        exact .inr ⟨p, p', m, n, rfl, rfl, sqT_same s h1, sqT_same s h3, q.1 _ (.bl _)⟩
  · cases hg

def leT (ns ms : List Int) : Bool := Ob.lexAt (fun j => decide (ns.getD j 0 = ms.getD j 0)) (fun j => decide (ns.getD j 0 ≤ ms.getD j 0)) (decide (ns.length ≤ ms.length)) 0 (min ns.length ms.length)
def gLe : PyData → PyData → Option Od
  | .int a, .int b => some (.sh (.bool (decide (a ≤ b))))
  | .tuple a, .tuple b => match intsOf a, intsOf b with
    | some x, some y => some (.sh (.bool (leT x y)))
    | _, _ => none
  | _, _ => none
def rLeA (K : Fg) : R2 := fun x y H Q => rI0 (fun i j => .bl (decide (i ≤ j))) x y H Q ∨ rLeT K x y H Q
theorem op_leA {X : Cx} (hu : X.A.units < cLine) : OpR X (compareOp .LtE) (rLeA X.K) := OpR.or op_le (op_leT hu)
theorem gLe_ok {K : Fg} : BinD K (rLeA K) gLe := by
  intro R H x y d d' o Q s hx hy hg q
  unfold gLe at hg
  split at hg
  · cases Option.some.inj hg
    rw [dc_int hx, dc_int hy]
    exact .inl ⟨_, _, rfl, rfl, q.1 _ (.bl _)⟩
  · rename_i a b
    cases qa : intsOf a with
    | none => rw [qa] at hg; cases hg
    | some m =>
      cases qb : intsOf b with
      | none => rw [qa, qb] at hg; cases hg
      | some n =>
        rw [qa, qb] at hg
        cases Option.some.inj hg
        cases intsOf_eq qa
        cases intsOf_eq qb
        obtain ⟨p, vs, rfl, h1, h2⟩ := dc_tup hx
        obtain ⟨p', ws, rfl, h3, h4⟩ := dc_tup hy
        cases h2.of_ints
        cases h4.of_ints
        exact .inr ⟨p, p', m, n, rfl, rfl, sqT_same s h1, sqT_same s h3, q.1 _ (.bl _)⟩
  · cases hg

/-! ### in -/
/-- the value at a key of a dict's entries (keys whole numbers and texts) -/
def keyOf : PyData → Option Key
  | .int i => some (.inl i)
  | .str x => some (.inr x)
  | _ => none
theorem keyOf_kD {d : PyData} {k : Key} (h : keyOf d = some k) : kD k = d := by cases d <;> simp only [keyOf, Option.some.injEq, reduceCtorEq] at h <;> (subst h; rfl)
def lookD (es : List (PyData × PyData)) (k : Key) : Option PyData := (es.find? fun p => decide (keyOf p.1 = some k)).map (·.2)
theorem keyOf_kD' (k : Key) : keyOf (kD k) = some k := by cases k <;> rfl
theorem DnK.look {K : Fg} {H : Hp} {k : Key} : ∀ {kvs : List (Key × V)} {es : List (PyData × PyData)}, DnK K H kvs es → (∃ v d, valV kvs k = some v ∧ lookD es k = some d ∧ Dn K H v d) ∨ (valV kvs k = none ∧ lookD es k = none)
  | _, _, .nil => .inr ⟨rfl, rfl⟩
  | _, _, @DnK.cons _ _ k' v kvs d es h1 h2 => by
    by_cases e : k' = k
    · refine .inl ⟨v, d, valV_pos e, ?_, h1⟩
      unfold lookD
      rw [List.find?_cons_of_pos (by simp [keyOf_kD', e])]
      rfl
    · have e1 : valV ((k', v) :: kvs) k = valV kvs k := valV_neg e
      have e2 : lookD ((kD k', d) :: es) k = lookD es k := by
        unfold lookD
        rw [List.find?_cons_of_neg (by simp [keyOf_kD', e])]
      rw [e1, e2]
      exact DnK.look h2
/-- a dict, not the script -/
def isScr : List (PyData × PyData) → Bool
  | (.none, _) :: _ => true
  | _ => false
def gIn (neg : Bool) (d d' : PyData) : Option Od := match d' with
  | .list ds => if SeqAt.shaped d = true ∧ SeqAt.shaped (.list ds) = true then some (.sh (.bool (if neg then !(ds.any fun z => PyData.eqv z d) else ds.any fun z => PyData.eqv z d))) else none
  | .tuple ds => if SeqAt.shaped d = true ∧ SeqAt.shaped (.tuple ds) = true then some (.sh (.bool (if neg then !(ds.any fun z => PyData.eqv z d) else ds.any fun z => PyData.eqv z d))) else none
  | .dict es => if isScr es = true then none else match keyOf d with
    | some k => some (.sh (.bool (if neg then !(lookD es k).isSome else (lookD es k).isSome)))
    | none => none
  | _ => none
theorem room_in {A : Around} {d : PyData} {m : Nat} (h : SeqAt.shaped d = true) (hu : A.units + 65 < cLine) : A.units + 1 + min m d.depth < cLine := by
  have := SeqAt.depth_of_shaped h
  omega
def rInA (K : Fg) (neg : Bool) : R2 := fun x y H Q =>
  (∃ d ds, Dn K H x d ∧ Dn K H y (.list ds) ∧ SeqAt.shaped d = true ∧ SeqAt.shaped (.list ds) = true ∧ Q (.bl (if neg then !(ds.any fun z => PyData.eqv z d) else ds.any fun z => PyData.eqv z d)) H) ∨
  (∃ d ds, Dn K H x d ∧ Dn K H y (.tuple ds) ∧ SeqAt.shaped d = true ∧ SeqAt.shaped (.tuple ds) = true ∧ Q (.bl (if neg then !(ds.any fun z => PyData.eqv z d) else ds.any fun z => PyData.eqv z d)) H) ∨
  (∃ a o, y = .ref a ∧ DGet H a x o ∧ Q (.bl (if neg then !o.isSome else o.isSome)) H)
theorem op_inA {X : Cx} (hu : X.A.units + 65 < cLine) : OpR X (compareOp .In) (rInA X.K false) := by
  intro pins s σ H x y v u Q I rx ry h
  rcases h with ⟨d, ds, hd, he, sd, se, q⟩ | ⟨d, ds, hd, he, sd, se, q⟩ | ⟨a, o, rfl, g, q⟩
  · obtain ⟨as, r1, _⟩ := Dn.reads I d x v (shaped_plain sd) hd rx
    obtain ⟨bs, r2, _⟩ := Dn.reads I (.list ds) y u (shaped_plain se) he ry
    exact SeqAt.in_list_reads r2 r1 (SeqAt.canLay_of_shaped se) (SeqAt.canLay_of_shaped sd) (room_in sd hu) ⟨.bl _, H, I, rfl, q⟩
  · obtain ⟨as, r1, _⟩ := Dn.reads I d x v (shaped_plain sd) hd rx
    obtain ⟨bs, r2, _⟩ := Dn.reads I (.tuple ds) y u (shaped_plain se) he ry
    exact SeqAt.in_tuple_reads r2 r1 (SeqAt.canLay_of_shaped se) (SeqAt.canLay_of_shaped sd) (room_in sd hu) ⟨.bl _, H, I, rfl, q⟩
  · cases ry
    exact d_in (by omega) I g rx fun s3 I3 => ⟨.bl _, H, I3, rfl, q⟩
theorem op_notinA {X : Cx} (hu : X.A.units + 65 < cLine) : OpR X (compareOp .NotIn) (rInA X.K true) := by
  intro pins s σ H x y v u Q I rx ry h
  rcases h with ⟨d, ds, hd, he, sd, se, q⟩ | ⟨d, ds, hd, he, sd, se, q⟩ | ⟨a, o, rfl, g, q⟩
  · obtain ⟨as, r1, _⟩ := Dn.reads I d x v (shaped_plain sd) hd rx
    obtain ⟨bs, r2, _⟩ := Dn.reads I (.list ds) y u (shaped_plain se) he ry
    exact SeqAt.notIn_list_reads r2 r1 (SeqAt.canLay_of_shaped se) (SeqAt.canLay_of_shaped sd) (room_in sd hu) ⟨.bl _, H, I, rfl, q⟩
  · obtain ⟨as, r1, _⟩ := Dn.reads I d x v (shaped_plain sd) hd rx
    obtain ⟨bs, r2, _⟩ := Dn.reads I (.tuple ds) y u (shaped_plain se) he ry
    exact SeqAt.notIn_tuple_reads r2 r1 (SeqAt.canLay_of_shaped se) (SeqAt.canLay_of_shaped sd) (room_in sd hu) ⟨.bl _, H, I, rfl, q⟩
  · cases ry
    exact d_notIn (by omega) I g rx fun s3 I3 => ⟨.bl _, H, I3, rfl, q⟩
theorem dc_dct {K : Fg} {R H : Hp} {v : V} {es : List (PyData × PyData)} (s : Same R H) (hs : isScr es ≠ true) (h : Dc K R H v (.dict es)) : ∃ a kvs, v = .ref a ∧ H a = some (.dK kvs) ∧ DnK K R kvs es := by
  cases h with
  | st h =>
    cases h with
    | dct h1 h2 => exact ⟨_, _, rfl, s _ _ h1, h2⟩
    | scr ns h => exact absurd rfl hs
  | dct h1 h2 => exact ⟨_, _, rfl, h1, h2⟩
theorem Dn.key {K : Fg} {H : Hp} {d : PyData} {k : Key} {v : V} (e : keyOf d = some k) (h : Dn K H v d) : v = kV k := by
  cases d <;> simp only [keyOf, Option.some.injEq, reduceCtorEq] at e <;> (subst e; cases h; rfl)
theorem gIn_ok {K : Fg} {neg : Bool} : BinD K (rInA K neg) (gIn neg) := by
  intro R H x y d d' o Q s hx hy hg q
  unfold gIn at hg
  split at hg
  · obtain ⟨⟨h1, h2⟩, rfl⟩ := ite_some hg
    exact .inl ⟨d, _, hx.dn s, hy.dn s, h1, h2, q.1 _ (.bl _)⟩
  · obtain ⟨⟨h1, h2⟩, rfl⟩ := ite_some hg
    exact .inr (.inl ⟨d, _, hx.dn s, hy.dn s, h1, h2, q.1 _ (.bl _)⟩)
  · rename_i es
    by_cases hs : isScr es = true
    · rw [if_pos hs] at hg; cases hg
    · rw [if_neg hs] at hg
      cases qk : keyOf d with
      | none => rw [qk] at hg; cases hg
      | some k =>
        rw [qk] at hg
        cases Option.some.inj hg
        obtain ⟨a, kvs, rfl, h1, h2⟩ := dc_dct s hs hy
        obtain rfl := (hx.dn s).key qk
        refine .inr (.inr ⟨a, valV kvs k, rfl, DGet.k h1, ?_⟩)
        rcases h2.look (k := k) with ⟨w, d2, e1, e2, _⟩ | ⟨e1, e2⟩
        · rw [e1]; rw [e2] at q; exact q.1 _ (.bl _)
        · rw [e1]; rw [e2] at q; exact q.1 _ (.bl _)
  · cases hg
/-- is, is not: None, a truth -/
def isNoneD : PyData → Bool
  | .none => true
  | _ => false
def gIs (neg : Bool) (d d' : PyData) : Option Od := match d' with
  | .none => some (.sh (.bool (if neg then !isNoneD d else isNoneD d)))
  | .bool b => match d with
    | .bool c => some (.sh (.bool (if neg then !decide (c = b) else decide (c = b))))
    | _ => none
  | _ => none
def rIsA (neg : Bool) : R2 := fun x y H Q => (y = .non ∧ Q (.bl (if neg then !decide (x = .non) else decide (x = .non))) H) ∨ (∃ a b : Bool, x = .bl a ∧ y = .bl b ∧ Q (.bl (if neg then !decide (a = b) else decide (a = b))) H)
theorem op_isA {X : Cx} : OpR X (compareOp .Is) (rIsA false) := OpR.or op_isN op_is_bl
theorem op_isnotA {X : Cx} : OpR X (compareOp .IsNot) (rIsA true) := OpR.or op_notN op_isnot_bl
theorem dc_non {K : Fg} {R H : Hp} {v : V} {d : PyData} (h : Dc K R H v d) : decide (v = .non) = isNoneD d := by
  cases h with
  | st h => cases h <;> simp [scrD, isNoneD]
  | lst _ _ => simp [isNoneD]
  | dct _ _ => simp [isNoneD]
theorem gIs_ok {K : Fg} {neg : Bool} : BinD K (rIsA neg) (gIs neg) := by
  intro R H x y d d' o Q s hx hy hg q
  unfold gIs at hg
  split at hg
  · cases Option.some.inj hg
    refine .inl ⟨dc_none hy, ?_⟩
    rw [dc_non hx]
    exact q.1 _ (.bl _)
  · split at hg
    · cases Option.some.inj hg
      exact .inr ⟨_, _, dc_bool hx, dc_bool hy, q.1 _ (.bl _)⟩
    · cases hg
  · cases hg
end PV
namespace PV
open PySem PySem.Spec PyProof.Rows L2

/-! ### tests -/
def AfterB (K : Fg) (B : Bs) (W : Wx) (σ : L2.St) (R H : Hp) (e : Ev) (r : Rs Bool) (Q : Bool → Hp → Prop) : Prop := match r with
  | .ok b e' => ∀ R' H', Same R R' → Rel K B R' σ H' e' → Frm σ e H H' → Tr e e' → Q b H'
  | .ex c => exq B W c
  | .bad => False
def tT (K : Fg) (B : Bs) (W : Wx) (f : Ev → Rs Bool) : TT := fun σ H Q => ∃ R e, Rel K B R σ H e ∧ AfterB K B W σ R H e (f e) Q
abbrev DT (X : Cx) (B : Bs) (W : Wx) (a : Expr) (f : Ev → Rs Bool) : Prop := PT X a (tT X.K B W f)
/-- the truth of data -/
def truD : PyData → Option Bool
  | .none => some false
  | .bool b => some b
  | .int i => some (i != 0)
  | .str x => if x.length ≤ line then some ((x.length : Int) != 0) else none
  | .list ds => some !ds.isEmpty
  | .tuple ds => some !ds.isEmpty
  | .dict es => if isScr es = true then none else some !es.isEmpty
def fTru (fa : Ev → Rs Rv) (e : Ev) : Rs Bool := (fa e).bind fun ra e1 => match (res e1 ra).bind truD with
  | some b => .ok b e1
  | none => .bad
theorem DnK.isEmpty {K : Fg} {H : Hp} {kvs : List (Key × V)} {es : List (PyData × PyData)} (h : DnK K H kvs es) : kvs.isEmpty = es.isEmpty := by cases h <;> rfl
theorem DnA.isEmpty {K : Fg} {H : Hp} {kvs : List V} {es : List PyData} (h : DnA K H kvs es) : kvs.isEmpty = es.isEmpty := by cases h <;> rfl
theorem truV_of {K : Fg} {R H : Hp} {v : V} {d : PyData} {b : Bool} (s : Same R H) (h : Dc K R H v d) (ht : truD d = some b) : TruV K v H b := by
  unfold truD at ht
  split at ht
  · cases Option.some.inj ht; rw [dc_none h]; exact rfl
  · cases Option.some.inj ht; rw [dc_bool h]; exact rfl
  · cases Option.some.inj ht; rw [dc_int h]; exact rfl
  · obtain ⟨hz, rfl⟩ := ite_some ht; rw [dc_str h]; exact ⟨by rw [line_eq]; exact hz, rfl⟩
  · cases Option.some.inj ht
    obtain ⟨a, vs, rfl, h1, h2⟩ := dc_lst s h
    exact .inl ⟨vs, SqL.of h1, by rw [h2.isEmpty]⟩
  · cases Option.some.inj ht
    obtain ⟨a, vs, rfl, h1, h2⟩ := dc_tup h
    exact .inr (.inl ⟨vs, sqT_same s h1, by rw [h2.isEmpty]⟩)
  · rename_i es
    by_cases hs : isScr es = true
    · rw [if_pos hs] at ht; cases ht
    · rw [if_neg hs] at ht
      cases Option.some.inj ht
      obtain ⟨a, kvs, rfl, h1, h2⟩ := dc_dct s hs h
      exact .inr (.inr ⟨kvs, h1, by rw [h2.isEmpty]⟩)
/-- an expression that isTrue takes by its value -/
def plainTest : Expr → Bool
  | .BoolOp .. => false
  | .UnaryOp .. => false
  | .Compare .. => false
  | .NamedExpr .. => false
  | .IfExp .. => false
  | _ => true
section
variable {X : Cx} {B : Bs} {W : Wx} {a b c : Expr} {fa fb fc : Ev → Rs Rv} {ga gb : Ev → Rs Bool} {pos : Pos}
theorem dt_truth (ha : DX X B W a fa) (he : ∀ whole, isTrue a X.env whole = (do let v ← whole; standAt a.pos; holding [v] (truthy v))) : DT X B W a (fTru fa) := by
  refine pt_imp (pt_truth ha he) fun σ H Q h => ?_
  obtain ⟨R, e, r, h⟩ := h
  refine ⟨R, e, r, ?_⟩
  have h : AfterB X.K B W σ R H e ((fa e).bind fun ra e1 => match (res e1 ra).bind truD with
    | some b => .ok b e1
    | none => .bad) Q := h
  cases q : fa e with
  | ex c => rw [q] at h; exact h
  | bad => rw [q] at h; exact h
  | ok ra e1 =>
    rw [q] at h
    intro x R1 H1 s1 r1 f1 t1 v1
    simp only [Rs.bind] at h
    cases qd : res e1 ra with
    | none => rw [qd] at h; exact h.elim
    | some d =>
      cases qt : truD d with
      | none => rw [qd] at h; simp only [Option.bind_some] at h; rw [qt] at h; exact h.elim
      | some k =>
        rw [qd] at h; simp only [Option.bind_some] at h; rw [qt] at h
        exact ⟨k, truV_of r1.sub (v1.dc r1 qd) qt, h R1 H1 s1 r1 f1 t1⟩
/-- a comparison as a test -/
def fTB (fa : Ev → Rs Rv) (e : Ev) : Rs Bool := (fa e).bind fun ra e1 => match ra with
  | .sh (.bool b) => .ok b e1
  | _ => .bad
theorem tB_of {σ : L2.St} {H : Hp} {Q : Bool → Hp → Prop} {K : Fg} (h : tT K B W (fTB fa) σ H Q) : tX K B W fa σ H fun x H' => ∃ k, x = .bl k ∧ Q k H' := by
  obtain ⟨R, e, r, h⟩ := h
  refine ⟨R, e, r, ?_⟩
  have h : AfterB K B W σ R H e ((fa e).bind fun ra e1 => match ra with
    | .sh (.bool b) => .ok b e1
    | _ => .bad) Q := h
  cases q : fa e with
  | ex c => rw [q] at h; exact h
  | bad => rw [q] at h; exact h
  | ok ra e1 =>
    rw [q] at h
    intro x R1 H1 s1 r1 f1 t1 v1
    simp only [Rs.bind] at h
    split at h
    · cases v1
      exact ⟨_, rfl, h R1 H1 s1 r1 f1 t1⟩
    · exact h.elim
theorem pt_cmp_any {op : CmpOp} {t : TE} (h : PC X op a b t) (hm : behindInMarks op b = false) : PT X (.Compare a [op] [b] pos) (tB t) := pt_cmp h hm
theorem pc_of_op {op : CmpOp} {r : R2} {ta tb : TE} (ho : OpR X (compareOp op) r) (ha : PE X a ta) (hb : PE X b tb) : PC X op a b (tOp r ta tb) := by
  refine ⟨fun pins s σ H Q I h => ?_⟩
  exact bin ha hb I h fun v u s2 x y H2 I2 rx ry q => ho pins s2 σ H2 x y v u Q I2 rx ry q
theorem dt_cmp {op : CmpOp} {r : R2} {g : PyData → PyData → Option Od} (ho : OpR X (compareOp op) r) (hg : BinD X.K r g) (hm : behindInMarks op b = false) (ha : DX X B W a fa) (hb : DX X B W b fb) : DT X B W (.Compare a [op] [b] pos) (fTB (fBin g fa fb)) := by
  refine pt_imp (pt_cmp (pc_of_op ho (dx_stab ha) hb) hm) fun σ H Q h => ?_
  exact two_of (bin2_of hg) (tB_of h)
def fNotB (g : Ev → Rs Bool) (e : Ev) : Rs Bool := (g e).bind fun b e1 => .ok (!b) e1
theorem dt_not (h : DT X B W a ga) : DT X B W (.UnaryOp .Not a pos) (fNotB ga) := by
  refine pt_imp (pt_not h) fun σ H Q h => ?_
  obtain ⟨R, e, r, h⟩ := h
  refine ⟨R, e, r, ?_⟩
  have h : AfterB X.K B W σ R H e ((ga e).bind fun b e1 => .ok (!b) e1) Q := h
  cases q : ga e with
  | ex c => rw [q] at h; exact h
  | bad => rw [q] at h; exact h
  | ok k e1 => rw [q] at h; exact h
def fAndB (ga gb : Ev → Rs Bool) (e : Ev) : Rs Bool := (ga e).bind fun b e1 => if b then gb e1 else .ok false e1
def fOrB (ga gb : Ev → Rs Bool) (e : Ev) : Rs Bool := (ga e).bind fun b e1 => if b then .ok true e1 else gb e1
theorem afterB_seq {K : Fg} {σ : L2.St} {R H R1 H1 : Hp} {e e1 : Ev} {r : Rs Bool} {Q : Bool → Hp → Prop} (s1 : Same R R1) (f1 : Frm σ e H H1) (t1 : Tr e e1) (h : AfterB K B W σ R H e r Q) : AfterB K B W σ R1 H1 e1 r Q := by
  cases r with
  | ex c => exact h
  | bad => exact h
  | ok b e2 => exact fun R2 H2 s2 r2 f2 t2 => h R2 H2 (s1.trans s2) r2 (f1.trans t1 f2) (t1.trans t2)
theorem after_seq {K : Fg} {σ : L2.St} {R H R1 H1 : Hp} {e e1 : Ev} {r : Rs Rv} {Q : VK} (s1 : Same R R1) (f1 : Frm σ e H H1) (t1 : Tr e e1) (h : After K B W σ R H e r Q) : After K B W σ R1 H1 e1 r Q := by
  cases r with
  | ex c => exact h
  | bad => exact h
  | ok b e2 => exact fun x R2 H2 s2 r2 f2 t2 v2 => h x R2 H2 (s1.trans s2) r2 (f1.trans t1 f2) (t1.trans t2) v2
theorem tT_bind {K : Fg} {k : Bool → Ev → Rs Bool} {σ : L2.St} {H : Hp} {Q : Bool → Hp → Prop} (h : tT K B W (fun e => (ga e).bind k) σ H Q) : tT K B W ga σ H fun b H1 => tT K B W (k b) σ H1 Q := by
  obtain ⟨R, e, r, h⟩ := h
  refine ⟨R, e, r, ?_⟩
  have h : AfterB K B W σ R H e ((ga e).bind k) Q := h
  cases q : ga e with
  | ex c => rw [q] at h; exact h
  | bad => rw [q] at h; exact h
  | ok b e1 =>
    rw [q] at h
    exact fun R1 H1 s1 r1 f1 t1 => ⟨R1, e1, r1, afterB_seq s1 f1 t1 h⟩
theorem tTX_bind {K : Fg} {k : Bool → Ev → Rs Rv} {σ : L2.St} {H : Hp} {Q : VK} (h : tX K B W (fun e => (ga e).bind k) σ H Q) : tT K B W ga σ H fun b H1 => tX K B W (k b) σ H1 Q := by
  obtain ⟨R, e, r, h⟩ := h
  refine ⟨R, e, r, ?_⟩
  have h : After K B W σ R H e ((ga e).bind k) Q := h
  cases q : ga e with
  | ex c => rw [q] at h; exact h
  | bad => rw [q] at h; exact h
  | ok b e1 =>
    rw [q] at h
    exact fun R1 H1 s1 r1 f1 t1 => ⟨R1, e1, r1, after_seq s1 f1 t1 h⟩
theorem tX_bind {K : Fg} {k : Rv → Ev → Rs Rv} {σ : L2.St} {H : Hp} {Q : VK} (h : tX K B W (fun e => (fa e).bind k) σ H Q) :
    tX K B W fa σ H fun x H1 => ∃ R e rv, Rel K B R σ H1 e ∧ VR K B R H1 σ e x rv ∧ After K B W σ R H1 e (k rv e) Q := by
  obtain ⟨R, e, r, h⟩ := h
  refine ⟨R, e, r, ?_⟩
  have h : After K B W σ R H e ((fa e).bind k) Q := h
  cases q : fa e with
  | ex c => rw [q] at h; exact h
  | bad => rw [q] at h; exact h
  | ok b e1 =>
    rw [q] at h
    exact fun x R1 H1 s1 r1 f1 t1 v1 => ⟨R1, e1, b, r1, v1, after_seq s1 f1 t1 h⟩
theorem tT_ret {K : Fg} {σ : L2.St} {H : Hp} {b : Bool} {Q : Bool → Hp → Prop} (h : tT K B W (fun e => .ok b e) σ H Q) : Q b H := by
  obtain ⟨R, e, r, h⟩ := h
  exact h R H (Same.refl _) r .refl (.refl _)
theorem tX_ret {K : Fg} {σ : L2.St} {H : Hp} {d : PyData} {v : V} {Q : VK} (hf : flatD d = some v) (h : tX K B W (fun e => .ok (.sh d) e) σ H Q) : Q v H := by
  obtain ⟨R, e, r, h⟩ := h
  exact h v R H (Same.refl _) r .refl (.refl _) (flatD_dn hf)
abbrev DW (X : Cx) (B : Bs) (W : Wx) (a : Expr) (f : Ev → Rs Bool) : Prop := PW X a (tT X.K B W f)
theorem pw_imp {t t' : TT} (h : PW X a t) (i : ∀ σ H Q, t' σ H Q → t σ H Q) : PW X a t' := ⟨fun wh pins s σ H Q I q => h.run wh pins s σ H Q I (i σ H Q q)⟩
theorem dw_and1 (h : DT X B W a ga) : DW X B W (.BoolOp .And [a] pos) ga := pw_and1 h
theorem dw_or1 (h : DT X B W a ga) : DW X B W (.BoolOp .Or [a] pos) ga := pw_or1 h
theorem dw_and {rest : List Expr} (h : DT X B W a ga) (h2 : DW X B W (.BoolOp .And (b :: rest) pos) gb) : DW X B W (.BoolOp .And (a :: b :: rest) pos) (fAndB ga gb) := by
  refine pw_imp (pw_and h h2) fun σ H Q h => ?_
  have h := tT_bind h
  obtain ⟨R, e, r, h⟩ := h
  refine ⟨R, e, r, ?_⟩
  cases q : ga e with
  | ex c => rw [q] at h; exact h
  | bad => rw [q] at h; exact h
  | ok k e1 =>
    rw [q] at h
    intro R1 H1 s1 r1 f1 t1
    have h := h R1 H1 s1 r1 f1 t1
    cases k with
    | true => exact h
    | false => exact tT_ret h
theorem dw_or {rest : List Expr} (h : DT X B W a ga) (h2 : DW X B W (.BoolOp .Or (b :: rest) pos) gb) : DW X B W (.BoolOp .Or (a :: b :: rest) pos) (fOrB ga gb) := by
  refine pw_imp (pw_or h h2) fun σ H Q h => ?_
  have h := tT_bind h
  obtain ⟨R, e, r, h⟩ := h
  refine ⟨R, e, r, ?_⟩
  cases q : ga e with
  | ex c => rw [q] at h; exact h
  | bad => rw [q] at h; exact h
  | ok k e1 =>
    rw [q] at h
    intro R1 H1 s1 r1 f1 t1
    have h := h R1 H1 s1 r1 f1 t1
    cases k with
    | true => exact tT_ret h
    | false => exact h
theorem dt_of_dw (h : DW X B W a ga) : DT X B W a ga := h.pt
/-! ### as values -/
def fNotV (fa : Ev → Rs Rv) (e : Ev) : Rs Rv := (fTB fa e).bind fun b e1 => .ok (.sh (.bool !b)) e1
def fAndV (fa fb : Ev → Rs Rv) (e : Ev) : Rs Rv := (fTB fa e).bind fun b e1 => if b then fb e1 else .ok (.sh (.bool false)) e1
def fOrV (fa fb : Ev → Rs Rv) (e : Ev) : Rs Rv := (fTB fa e).bind fun b e1 => if b then .ok (.sh (.bool true)) e1 else fb e1
theorem te_mono {K : Fg} {σ : L2.St} {H : Hp} {Q Q' : VK} (h : tX K B W fa σ H Q) (i : ∀ v H, Q v H → Q' v H) : tX K B W fa σ H Q' := by
  obtain ⟨R, e, r, h⟩ := h
  refine ⟨R, e, r, ?_⟩
  cases q : fa e with
  | ex c => rw [q] at h; exact h
  | bad => rw [q] at h; exact h
  | ok k e1 => rw [q] at h; exact fun x R1 H1 s1 r1 f1 t1 v1 => i _ _ (h x R1 H1 s1 r1 f1 t1 v1)
theorem dx_not (h : DX X B W a fa) : DX X B W (.UnaryOp .Not a pos) (fNotV fa) := by
  refine pe_imp (pe_not h) fun σ H Q h => ?_
  refine te_mono (tB_of (tTX_bind h)) fun v H1 ⟨k, e, q⟩ => ⟨k, e, tX_ret (d := .bool !k) rfl q⟩
theorem dx_one {op} (h : DX X B W a fa) : DX X B W (.BoolOp op [a] pos) fa := pe_one h
theorem dx_and {rest : List Expr} (h : DX X B W a fa) (h2 : DX X B W (.BoolOp .And (b :: rest) pos) fb) : DX X B W (.BoolOp .And (a :: b :: rest) pos) (fAndV fa fb) := by
  refine pe_imp (pe_and h h2) fun σ H Q h => ?_
  refine te_mono (tB_of (tTX_bind h)) fun v H1 ⟨k, e, q⟩ => ⟨k, e, ?_⟩
  cases k with
  | true => exact q
  | false => exact tX_ret (d := .bool false) rfl q
theorem dx_or {rest : List Expr} (h : DX X B W a fa) (h2 : DX X B W (.BoolOp .Or (b :: rest) pos) fb) : DX X B W (.BoolOp .Or (a :: b :: rest) pos) (fOrV fa fb) := by
  refine pe_imp (pe_or h h2) fun σ H Q h => ?_
  refine te_mono (tB_of (tTX_bind h)) fun v H1 ⟨k, e, q⟩ => ⟨k, e, ?_⟩
  cases k with
  | true => exact tX_ret (d := .bool true) rfl q
  | false => exact q
def fIf (g : Ev → Rs Bool) (fa fb : Ev → Rs Rv) (e : Ev) : Rs Rv := (g e).bind fun b e1 => if b then fa e1 else fb e1
theorem dx_if (h : DT X B W c ga) (h1 : DX X B W a fa) (h2 : DX X B W b fb) : DX X B W (.IfExp c a b pos) (fIf ga fa fb) := by
  refine pe_imp (pe_ifExp h h1 h2) fun σ H Q h => ?_
  have h := tTX_bind h
  obtain ⟨R, e, r, h⟩ := h
  refine ⟨R, e, r, ?_⟩
  cases q : ga e with
  | ex c => rw [q] at h; exact h
  | bad => rw [q] at h; exact h
  | ok k e1 =>
    rw [q] at h
    intro R1 H1 s1 r1 f1 t1
    have h := h R1 H1 s1 r1 f1 t1
    cases k with
    | true => exact h
    | false => exact h
def fNeg (fa : Ev → Rs Rv) (e : Ev) : Rs Rv := (fa e).bind fun ra e1 => match res e1 ra with
  | some (.int i) => .ok (.sh (.int (-i))) e1
  | _ => .bad
theorem dx_neg (h : DX X B W a fa) : DX X B W (.UnaryOp .USub a pos) (fNeg fa) := by
  refine pe_imp (pe_un un_neg h) fun σ H Q h => ?_
  refine te_mono (tX_bind h) fun v H1 ⟨R, e, rv, r, vr, h⟩ => ?_
  split at h
  · rename_i i q
    exact ⟨i, dc_int (vr.dc r q), h _ R H1 (Same.refl _) r .refl (.refl _) (.int _)⟩
  · exact h.elim
/-- a < b < c -/
def fChain (g g' : PyData → PyData → Option Od) (fa fb fc : Ev → Rs Rv) (e : Ev) : Rs Rv := (stab (fa e)).bind fun ra e1 => (stab (fb e1)).bind fun rb e2 => match bin2 g ra rb e2 with
  | .ok (.sh (.bool true)) e3 => (fc e3).bind fun rc e4 => bin2 g' rb rc e4
  | .ok (.sh (.bool false)) e3 => .ok (.sh (.bool false)) e3
  | _ => .bad
end
end PV
namespace PV
open PySem PySem.Spec PyProof.Rows L2
section
variable {X : Cx} {B : Bs} {W : Wx} {a b c : Expr} {fa fb fc : Ev → Rs Rv} {ga gb : Ev → Rs Bool} {pos : Pos}
theorem bin2_bool {g : PyData → PyData → Option Od} {ra rb : Rv} {e e3 : Ev} {rc : Rv} (h : bin2 g ra rb e = .ok rc e3) : e3 = e ∧ ∃ d d' o, res e ra = some d ∧ res e rb = some d' ∧ g d d' = some o ∧ rc = o.rv := by
  unfold bin2 at h
  cases qa : res e ra with
  | none => rw [qa] at h; cases h
  | some d =>
    cases qb : res e rb with
    | none => rw [qa, qb] at h; cases h
    | some d' =>
      rw [qa, qb] at h
      simp only at h
      cases qo : g d d' with
      | none => rw [qo] at h; cases h
      | some o =>
        rw [qo] at h
        simp only [outR, Rs.ok.injEq] at h
        exact ⟨h.2.symm, d, d', o, rfl, rfl, qo, h.1.symm⟩
theorem tX_bindS {K : Fg} {k : Rv → Ev → Rs Rv} {σ : L2.St} {H : Hp} {Q : VK} {R : Hp} {e : Ev} (r : Rel K B R σ H e) (h : After K B W σ R H e ((fa e).bind k) Q) :
    tX K B W fa σ H fun x H1 => ∃ R1 e1 rv, fa e = .ok rv e1 ∧ Same R R1 ∧ Tr e e1 ∧ Rel K B R1 σ H1 e1 ∧ VR K B R1 H1 σ e1 x rv ∧ After K B W σ R1 H1 e1 (k rv e1) Q := by
  refine ⟨R, e, r, ?_⟩
  cases q : fa e with
  | ex c => rw [q] at h; exact h
  | bad => rw [q] at h; exact h
  | ok b e1 =>
    rw [q] at h
    exact fun x R1 H1 s1 r1 f1 t1 v1 => ⟨R1, e1, b, rfl, s1, t1, r1, v1, after_seq s1 f1 t1 h⟩
theorem chain_of {K : Fg} {r r' : R2} {g g' : PyData → PyData → Option Od} {σ : L2.St} {H : Hp} {Q : VK} (hg : BinD K r g) (hg' : BinD K r' g') (h : tX K B W (fChain g g' fa fb fc) σ H Q) :
    tChain r r' (tX K B W (fun e => stab (fa e))) (tX K B W (fun e => stab (fb e))) (tX K B W fc) σ H Q := by
  obtain ⟨R, e, rl, h⟩ := h
  refine te_mono (tX_bindS rl h) fun x H1 ⟨R1, e1, ra, qa, s1, t1, r1, v1, h⟩ => ?_
  refine te_mono (tX_bindS r1 h) fun y H2 ⟨R2, e2, rb, qb, s2, t2, r2, v2, h⟩ => ?_
  have v1' := VR.keep (H' := H2) (stab_ok qa) v1 s2 t2
  revert h
  cases q3 : bin2 g ra rb e2 with
  | ex c => intro h; exact h.elim
  | bad => intro h; exact h.elim
  | ok rc e3 =>
    intro h
    obtain ⟨rfl, d, d', o, h1, h2, h3, rfl⟩ := bin2_bool q3
    refine hg R2 H2 x y d d' o _ r2.sub (v1'.dc r2 h1) (v2.dc r2 h2) h3 ?_
    cases o with
    | fl ds => exact h.elim
    | fd ds => exact h.elim
    | sh d =>
      cases d with
      | bool k =>
        refine ⟨fun v hv => ?_, fun p ob _ hv => nomatch hv⟩
        cases hv
        refine ⟨k, rfl, ?_⟩
        cases k with
        | false => exact h (.bl false) R2 H2 (Same.refl _) r2 .refl (.refl _) (.bl _)
        | true =>
          refine te_mono (tX_bindS r2 h) fun z H4 ⟨R4, e4, rc, qc, s4, t4, r4, v4, h⟩ => ?_
          exact bin2_of hg' R4 H4 e4 y z rb rc Q r4 (v2.keep (stab_ok qb) s4 t4) v4 h
      | none => exact h.elim
      | int _ => exact h.elim
      | str _ => exact h.elim
      | list _ => exact h.elim
      | tuple _ => exact h.elim
      | dict _ => exact h.elim
theorem dx_chain {op op' : CmpOp} {r r' : R2} {g g' : PyData → PyData → Option Od} (ho : OpR X (compareOp op) r) (ho' : OpR X (compareOp op') r') (hg : BinD X.K r g) (hg' : BinD X.K r' g') (hm : lastMarks [op, op'] [b, c] = false)
    (ha : DX X B W a fa) (hb : DX X B W b fb) (hc : DX X B W c fc) : DX X B W (.Compare a [op, op'] [b, c] pos) (fChain g g' fa fb fc) :=
  pe_imp (pe_chain ho ho' (dx_stab ha) (dx_stab hb) hc hm) fun _ _ _ h => chain_of hg hg' h
theorem dt_chain {op op' : CmpOp} {r r' : R2} {g g' : PyData → PyData → Option Od} (ho : OpR X (compareOp op) r) (ho' : OpR X (compareOp op') r') (hg : BinD X.K r g) (hg' : BinD X.K r' g') (hm : lastMarks [op, op'] [b, c] = false)
    (ha : DX X B W a fa) (hb : DX X B W b fb) (hc : DX X B W c fc) : DT X B W (.Compare a [op, op'] [b, c] pos) (fTB (fChain g g' fa fb fc)) :=
  pt_imp (pt_chain ho ho' (dx_stab ha) (dx_stab hb) hc hm) fun _ _ _ h => chain_of hg hg' (tB_of h)

/-! ### argument lists -/
inductive VRs (K : Fg) (B : Bs) (R H : Hp) (σ : L2.St) (e : Ev) : List V → List Rv → Prop
  | nil : VRs K B R H σ e [] []
  | cons {v vs rv rvs} : VR K B R H σ e v rv → isStab rv = true → VRs K B R H σ e vs rvs → VRs K B R H σ e (v :: vs) (rv :: rvs)
def AfterL (K : Fg) (B : Bs) (W : Wx) (σ : L2.St) (R H : Hp) (e : Ev) (r : Rs (List Rv)) (Q : List V → Hp → Prop) : Prop := match r with
  | .ok rvs e' => ∀ vs R' H', Same R R' → Rel K B R' σ H' e' → Frm σ e H H' → Tr e e' → VRs K B R' H' σ e' vs rvs → Q vs H'
  | .ex c => exq B W c
  | .bad => False
def tL (K : Fg) (B : Bs) (W : Wx) (f : Ev → Rs (List Rv)) : TA := fun σ H Q => ∃ R e, Rel K B R σ H e ∧ AfterL K B W σ R H e (f e) Q
abbrev DL (X : Cx) (B : Bs) (W : Wx) (es : List Expr) (f : Ev → Rs (List Rv)) : Prop := PA X es (tL X.K B W f)
def fNil (e : Ev) : Rs (List Rv) := .ok [] e
/-- each argument: what is fresh stands still from now on; sh: others may hold it -/
def fCons (fa : Ev → Rs Rv) (fr : Ev → Rs (List Rv)) (e : Ev) : Rs (List Rv) := (stab (fa e)).bind fun ra e1 => (fr e1).bind fun rs e2 => .ok (ra :: rs) e2
theorem dl_nil : DL X B W [] fNil := by
  refine pa_imp pa_nil fun σ H Q h => ?_
  obtain ⟨R, e, r, h⟩ := h
  exact h [] R H (Same.refl _) r .refl (.refl _) .nil
theorem afterL_seq {K : Fg} {σ : L2.St} {R H R1 H1 : Hp} {e e1 : Ev} {r : Rs (List Rv)} {Q : List V → Hp → Prop} (s1 : Same R R1) (f1 : Frm σ e H H1) (t1 : Tr e e1) (h : AfterL K B W σ R H e r Q) : AfterL K B W σ R1 H1 e1 r Q := by
  cases r with
  | ex c => exact h
  | bad => exact h
  | ok b e2 => exact fun x R2 H2 s2 r2 f2 t2 v2 => h x R2 H2 (s1.trans s2) r2 (f1.trans t1 f2) (t1.trans t2) v2
theorem dl_cons {es : List Expr} {fr : Ev → Rs (List Rv)} (ha : DX X B W a fa) (hr : DL X B W es fr) (hs : starEach (a :: es) X.env = (false, eval a X.env) :: starEach es X.env) : DL X B W (a :: es) (fCons fa fr) := by
  refine pa_imp (pa_cons (dx_stab ha) hr hs) fun σ H Q h => ?_
  obtain ⟨R, e, r, h⟩ := h
  have h : AfterL X.K B W σ R H e ((stab (fa e)).bind fun ra e1 => (fr e1).bind fun rs e2 => .ok (ra :: rs) e2) Q := h
  refine ⟨R, e, r, ?_⟩
  show After X.K B W σ R H e (stab (fa e)) _
  cases q : stab (fa e) with
  | ex c => rw [q] at h; exact h
  | bad => rw [q] at h; exact h
  | ok ra e1 =>
    rw [q] at h
    intro x R1 H1 s1 r1 f1 t1 v1
    have h := afterL_seq s1 f1 t1 h
    refine ⟨R1, e1, r1, ?_⟩
    have h : AfterL X.K B W σ R1 H1 e1 ((fr e1).bind fun rs e2 => .ok (ra :: rs) e2) Q := h
    cases q2 : fr e1 with
    | ex c => rw [q2] at h; exact h
    | bad => rw [q2] at h; exact h
    | ok rs e2 =>
      rw [q2] at h
      exact fun xs R2 H2 s2 r2 f2 t2 v2 => h (x :: xs) R2 H2 s2 r2 f2 t2 (.cons (v1.keep (stab_ok q) s2 t2) (stab_ok q) v2)
/-! ### displays -/
def shD : List Rv → Option (List PyData)
  | [] => some []
  | .sh d :: r => (shD r).map (d :: ·)
  | _ => none
theorem shD_dn {K : Fg} {R H : Hp} {σ : L2.St} {e : Ev} : ∀ {vs : List V} {rvs : List Rv} {ds : List PyData}, VRs K B R H σ e vs rvs → shD rvs = some ds → DnA K R vs ds
  | _, _, _, .nil, h => by simp only [shD, Option.some.injEq] at h; subst h; exact .nil
  | _, _, _, @VRs.cons _ _ _ _ _ _ v vs rv rvs h1 hs h2, h => by
    cases rv with
    | sh d =>
      simp only [shD] at h
      obtain ⟨r, e1, rfl⟩ := Option.map_eq_some_iff.mp h
      exact .cons h1 (shD_dn h2 e1)
    | fl _ => cases hs
    | fd _ => cases hs
    | sl i => simp [shD] at h
def fTup (fl : Ev → Rs (List Rv)) (e : Ev) : Rs Rv := (fl e).bind fun rs e1 => match shD rs with
  | some ds => if ds.length ≤ line then .ok (.sh (.tuple ds)) e1 else .bad
  | none => .bad
def fLst (fl : Ev → Rs (List Rv)) (e : Ev) : Rs Rv := (fl e).bind fun rs e1 => match shD rs with
  | some ds => if ds.length ≤ line then .ok (.fl ds) e1 else .bad
  | none => .bad
theorem tL_bind {K : Fg} {fl : Ev → Rs (List Rv)} {k : List Rv → Ev → Rs Rv} {σ : L2.St} {H : Hp} {Q : VK} (h : tX K B W (fun e => (fl e).bind k) σ H Q) :
    tL K B W fl σ H fun xs H1 => ∃ R e rvs, Rel K B R σ H1 e ∧ VRs K B R H1 σ e xs rvs ∧ After K B W σ R H1 e (k rvs e) Q := by
  obtain ⟨R, e, r, h⟩ := h
  refine ⟨R, e, r, ?_⟩
  have h : After K B W σ R H e ((fl e).bind k) Q := h
  cases q : fl e with
  | ex c => rw [q] at h; exact h
  | bad => rw [q] at h; exact h
  | ok b e1 =>
    rw [q] at h
    exact fun x R1 H1 s1 r1 f1 t1 v1 => ⟨R1, e1, b, r1, v1, after_seq s1 f1 t1 h⟩
theorem tl_mono {K : Fg} {fl : Ev → Rs (List Rv)} {σ : L2.St} {H : Hp} {Q Q' : List V → Hp → Prop} (h : tL K B W fl σ H Q) (i : ∀ v H, Q v H → Q' v H) : tL K B W fl σ H Q' := by
  obtain ⟨R, e, r, h⟩ := h
  refine ⟨R, e, r, ?_⟩
  cases q : fl e with
  | ex c => rw [q] at h; exact h
  | bad => rw [q] at h; exact h
  | ok k e1 => rw [q] at h; exact fun x R1 H1 s1 r1 f1 t1 v1 => i _ _ (h x R1 H1 s1 r1 f1 t1 v1)
theorem dx_tup {es : List Expr} {k : Nat} {fl : Ev → Rs (List Rv)} (h : DL X B W es fl) : DX X B W (.Tuple es k pos) (fTup fl) := by
  refine pe_imp (pe_tup h) fun σ H Q h => ?_
  refine tl_mono (tL_bind h) fun xs H1 ⟨R, e, rvs, r, v, h⟩ => ?_
  cases qs : shD rvs with
  | none => rw [qs] at h; exact h.elim
  | some ds =>
    rw [qs] at h
    simp only at h
    by_cases hz : ds.length ≤ line
    · rw [if_pos hz] at h
      have dn := shD_dn v qs
      refine ⟨by rw [dn.length, line_eq]; exact hz, fun p hp => ?_⟩
      exact (resQ_of (o := .sh (.tuple ds)) r (fun _ z => nomatch z) h).2 p _ hp (.tup (SqT.of upd_same) (dn.mono (same_new (r.rnn hp))))
    · rw [if_neg hz] at h; exact h.elim
theorem dx_lst {es : List Expr} {fl : Ev → Rs (List Rv)} (h : DL X B W es fl) : DX X B W (.List es pos) (fLst fl) := by
  refine pe_imp (pe_lst h) fun σ H Q h => ?_
  refine tl_mono (tL_bind h) fun xs H1 ⟨R, e, rvs, r, v, h⟩ => ?_
  cases qs : shD rvs with
  | none => rw [qs] at h; exact h.elim
  | some ds =>
    rw [qs] at h
    simp only at h
    by_cases hz : ds.length ≤ line
    · rw [if_pos hz] at h
      have dn := shD_dn v qs
      exact ⟨by rw [dn.length, line_eq]; exact hz, fun p hp => resQ_of (o := .fl ds) r (fun _ z => nomatch z) h p xs hp dn⟩
    · rw [if_neg hz] at h; exact h.elim
/-- {} -/
def fDct0 (e : Ev) : Rs Rv := .ok (.fd []) e
theorem dx_dct0 : DX X B W (.Dict [] [] pos) fDct0 := by
  refine pe_imp pe_dnewK fun σ H Q h => ?_
  obtain ⟨R, e, r, h⟩ := h
  exact fun p hp => resQ_of (o := .fd []) r (fun _ z => nomatch z) h p [] hp .nil

/-! ### subscripts -/
def rIxD : R2 := fun x y H Q => ∃ a v, x = .ref a ∧ DGet H a y (some v) ∧ Q v H
theorem ix_dict (hu : X.A.units + 1 < cLine) : IxR X rIxD := by
  intro value slice pins s σ H x y v u Q I rx ry h hs
  obtain ⟨a, w, rfl, g, q⟩ := h
  cases rx
  exact tail_any (dict_typeIs I g) PySem.F.slot_dict_getitem.lookup (d_getItem hu I g ry fun w' s3 I3 rw' => ⟨w, H, I3, rw', q⟩) hs
def rIxA (K : Fg) : R2 := fun x y H Q => rIx K x y H Q ∨ rIxD x y H Q
theorem ix_any (hu : X.A.units + 1 < cLine) : IxR X (rIxA X.K) := ix_seq.or (ix_dict hu)
def gIx : PyData → PyData → Option Od
  | .list ds, .int i => (atI ds i).map .sh
  | .tuple ds, .int i => (atI ds i).map .sh
  | .str x, .int i => if x.length ≤ line then (atI x.cps.toList i).map fun c => .sh (.str ⟨#[c]⟩) else none
  | .dict es, d => if isScr es = true then (match es, d with
      | [(.none, .list ds)], .int i => (match intsOf ds with
        | some ns => (atI ns i).map fun n => .sh (.int n)
        | none => none)
      | _, _ => none) else match keyOf d with
    | some k => (lookD es k).map .sh
    | none => none
  | _, _ => none
theorem DnA.atI {K : Fg} {H : Hp} {vs : List V} {ds : List PyData} {i : Int} {d : PyData} (h : DnA K H vs ds) (e : atI ds i = some d) : ∃ v, atI vs i = some v ∧ Dn K H v d := by
  unfold L2.atI at e ⊢
  rw [h.length]
  cases q : ixN ds.length i with
  | none => rw [q] at e; cases e
  | some j => rw [q] at e; exact h.get e
theorem atI_map {α β : Type} (f : α → β) (xs : List α) (i : Int) : atI (xs.map f) i = (atI xs i).map f := by
  unfold atI
  rw [List.length_map]
  cases ixN xs.length i with
  | none => rfl
  | some j => simp
theorem intsOf_map : ∀ ns : List Int, intsOf (ns.map .int) = some ns
  | [] => rfl
  | n :: r => by simp only [List.map_cons, intsOf, intsOf_map r, Option.map_some]
theorem DnK.scr {K : Fg} {H : Hp} : ∀ {kvs : List (Key × V)} {es : List (PyData × PyData)}, DnK K H kvs es → isScr es = false
  | _, _, .nil => rfl
  | _, _, @DnK.cons _ _ k _ _ _ _ _ _ => by cases k <;> rfl
theorem gIx_ok {K : Fg} : BinD K (rIxA K) gIx := by
  intro R H x y d d' o Q s hx hy hg q
  unfold gIx at hg
  split at hg
  · obtain ⟨z, e1, rfl⟩ := Option.map_eq_some_iff.mp hg
    obtain ⟨a, vs, rfl, h1, h2⟩ := dc_lst s hx
    obtain ⟨v, e2, e3⟩ := h2.atI e1
    rw [dc_int hy]
    exact .inl (.inl ⟨a, vs, _, v, rfl, rfl, SqL.of h1, e2, q.1 _ e3⟩)
  · obtain ⟨z, e1, rfl⟩ := Option.map_eq_some_iff.mp hg
    obtain ⟨a, vs, rfl, h1, h2⟩ := dc_tup hx
    obtain ⟨v, e2, e3⟩ := h2.atI e1
    rw [dc_int hy]
    exact .inl (.inr (.inl ⟨a, vs, _, v, rfl, rfl, sqT_same s h1, e2, q.1 _ e3⟩))
  · rename_i x' i
    by_cases hz : x'.length ≤ line
    · rw [if_pos hz] at hg
      obtain ⟨z, e1, rfl⟩ := Option.map_eq_some_iff.mp hg
      rw [dc_str hx, dc_int hy]
      exact .inl (.inr (.inr ⟨x', i, z, rfl, rfl, by rw [line_eq]; exact hz, e1, q.1 _ (.str _)⟩))
    · rw [if_neg hz] at hg; cases hg
  · rename_i es
    by_cases hs : isScr es = true
    · rw [if_pos hs] at hg
      split at hg
      · rename_i ds i
        cases qi : intsOf ds with
        | none => rw [qi] at hg; cases hg
        | some ns =>
          rw [qi] at hg
          obtain ⟨n, e1, rfl⟩ := Option.map_eq_some_iff.mp hg
          cases intsOf_eq qi
          rw [dc_int hy]
          have key : ∀ {v : V}, Dn K R v (.dict [(.none, .list (ns.map .int))]) → ∃ a, v = .ref a ∧ SqL K R a (ns.map V.int) := fun {v} h => by
            generalize hd : (PyData.dict [(.none, .list (ns.map .int))]) = d at h
            cases h with
            | dct h1 h2 =>
              cases hd
              exact absurd h2.scr (by simp [isScr])
            | scr ms h =>
              simp only [scrD, PyData.dict.injEq, List.cons.injEq, Prod.mk.injEq, PyData.list.injEq, true_and, and_true] at hd
              have e := congrArg intsOf hd
              rw [intsOf_map, intsOf_map] at e
              cases e
              exact ⟨_, rfl, h⟩
            | _ => cases hd
          have sc : ∃ a, x = .ref a ∧ SqL K R a (ns.map V.int) := by
            generalize hd : (PyData.dict [(.none, .list (ns.map .int))]) = d at hx
            cases hx with
            | st h => rw [← hd] at h; exact key h
            | lst _ _ => cases hd
            | dct h1 h2 =>
              cases hd
              exact absurd h2.scr (by simp [isScr])
          obtain ⟨a, rfl, hq⟩ := sc
          exact .inl (.inl ⟨a, _, i, .int n, rfl, rfl, s.seq hq, by rw [atI_map, e1]; rfl, q.1 _ (.int _)⟩)
      · cases hg
    · rw [if_neg hs] at hg
      cases qk : keyOf d' with
      | none => rw [qk] at hg; cases hg
      | some k =>
        rw [qk] at hg
        obtain ⟨z, e1, rfl⟩ := Option.map_eq_some_iff.mp hg
        obtain ⟨a, kvs, rfl, h1, h2⟩ := dc_dct s hs hx
        obtain rfl := (hy.dn s).key qk
        rcases h2.look (k := k) with ⟨w, d2, e2, e3, e4⟩ | ⟨e2, e3⟩
        · rw [e1] at e3; cases e3
          exact .inr ⟨a, w, rfl, by rw [← e2]; exact DGet.k h1, q.1 _ e4⟩
        · rw [e1] at e3; cases e3
  · cases hg
theorem dx_ix (hu : X.A.units + 1 < cLine) (hs : PlainIx b) (ha : DX X B W a fa) (hb : DX X B W b fb) : DX X B W (.Subscript a b pos) (fBin gIx fa fb) :=
  pe_imp (pe_ix (ix_any hu) (dx_stab ha) hb hs) fun _ _ _ h => two_of (bin2_of gIx_ok) h
end
end PV
namespace PV
open PySem PySem.Spec PySem.W PyProof.Rows L2
/-- u reads as d, by what stands still -/
def UD (K : Fg) (R : Hp) (u : Value) (d : PyData) : Prop := ∃ v : V, L2.RelV v u ∧ Dn K R v d
theorem each_of {K : Fg} {R : Hp} : ∀ {vs : List V} {us : List Value} {ds : List PyData}, L2.Vals vs us → DnA K R vs ds → EachIs (UD K R) us ds
  | _, _, _, .nil, h => by cases h; exact .nil
  | _, _, _, .cons r t, h => by
    cases h with
    | cons a b => exact .cons ⟨_, r, a⟩ (each_of t b)
theorem of_each {K : Fg} {R : Hp} : ∀ {us : List Value} {ds : List PyData}, EachIs (UD K R) us ds → ∃ vs, L2.Vals vs us ∧ DnA K R vs ds
  | _, _, .nil => ⟨[], .nil, .nil⟩
  | _, _, .cons ⟨v, r, a⟩ t => by
    obtain ⟨vs, h1, h2⟩ := of_each t
    exact ⟨v :: vs, .cons r h1, .cons a h2⟩
mutual
theorem alike_plain : ∀ d : PyData, alike d d = true → plainD d = true
  | .none, _ => rfl
  | .bool _, _ => rfl
  | .int _, _ => rfl
  | .str _, _ => rfl
  | .list xs, h => by simp only [alike] at h; simp only [plainD]; exact alike_plainA xs h
  | .tuple xs, h => by simp only [alike] at h; simp only [plainD]; exact alike_plainA xs h
  | .dict _, h => by simp [alike] at h
theorem alike_plainA : ∀ ds : List PyData, alikeAll ds ds = true → plainA ds = true
  | [], _ => rfl
  | d :: ds, h => by
    have h := alike_all_cons h
    simp only [plainA, Bool.and_eq_true]
    exact ⟨alike_plain d h.1, alike_plainA ds h.2⟩
end
def alikeB (ds : List PyData) : Bool := ds.all fun d => ds.all fun d' => alike d d'
def sortB (ds : List PyData) : Bool := (ds.all fun d => match d with | .tuple (_ :: _) => true | _ => false) || (ds.all fun d => match d with | .none => false | .tuple _ => false | _ => true)
def deepB (ds : List PyData) : Bool := ds.all fun d => decide (d.depth ≤ 40)
theorem alikeB_ok {ds : List PyData} (h : alikeB ds = true) : AllAlike (ds.map id) := by
  unfold alikeB at h
  rw [List.map_id]
  intro d hd d' hd'
  exact List.all_eq_true.mp (List.all_eq_true.mp h d hd) d' hd'
theorem sortB_ok {ds : List PyData} (h : sortB ds = true) : Sortable (ds.map id) := by
  unfold sortB at h
  rw [List.map_id]
  rcases Bool.or_eq_true_iff.mp h with h | h
  · refine .inl fun d hd => ?_
    have := List.all_eq_true.mp h d hd
    split at this
    · exact ⟨_, _, rfl⟩
    · cases this
  · refine .inr fun d hd => ?_
    have := List.all_eq_true.mp h d hd
    split at this
    · cases this
    · cases this
    · rename_i h1 h2
      exact ⟨h1, h2⟩
/-! whole numbers in order, as the kernel works it out -/
def insI (x : Int) : List Int → List Int
  | [] => [x]
  | y :: r => if x ≤ y then x :: y :: r else y :: insI x r
def isI : List Int → List Int
  | [] => []
  | x :: r => insI x (isI r)
theorem insI_perm (x : Int) : ∀ r, (insI x r).Perm (x :: r)
  | [] => .refl _
  | y :: r => by
    unfold insI
    split
    · exact .refl _
    · exact ((insI_perm x r).cons y).trans (List.Perm.swap _ _ _)
theorem insI_pw (x : Int) : ∀ r : List Int, r.Pairwise (· ≤ ·) → (insI x r).Pairwise (· ≤ ·)
  | [], _ => by simp [insI]
  | y :: r, h => by
    have h2 := List.pairwise_cons.mp h
    unfold insI
    split
    · rename_i hxy
      refine List.pairwise_cons.mpr ⟨fun z hz => ?_, h⟩
      rcases List.mem_cons.mp hz with e | hz
      · rw [e]; exact hxy
      · exact Int.le_trans hxy (h2.1 z hz)
    · rename_i hxy
      refine List.pairwise_cons.mpr ⟨fun z hz => ?_, insI_pw x r h2.2⟩
      rcases List.mem_cons.mp ((insI_perm x r).mem_iff.mp hz) with e | hz
      · omega
      · exact h2.1 z hz
theorem isI_all : ∀ r : List Int, (isI r).Perm r ∧ (isI r).Pairwise (· ≤ ·)
  | [] => ⟨.refl _, .nil⟩
  | x :: r => ⟨(insI_perm x _).trans ((isI_all r).1.cons x), insI_pw x _ (isI_all r).2⟩
theorem isI_one {xs ys : List Int} (h : ys.Perm xs) (hp : ys.Pairwise (· ≤ ·)) : ys = isI xs :=
  List.Perm.eq_of_pairwise (le := fun a b => a ≤ b) (fun a b _ _ => Int.le_antisymm) hp (isI_all xs).2 (h.trans (isI_all xs).1.symm)
def srtI (xs : List Int) : List Int := xs.mergeSort fun a b => decide (a ≤ b)
theorem srtI_isI (xs : List Int) : srtI xs = isI xs := by
  have h1 : (srtI xs).Pairwise fun a b => decide (a ≤ b) = true := List.pairwise_mergeSort (fun a b c => by simp only [decide_eq_true_eq]; omega) (fun a b => by simp only [Bool.or_eq_true, decide_eq_true_eq]; omega) xs
  exact isI_one (List.mergeSort_perm xs _) (h1.imp fun h => of_decide_eq_true h)
def srtD (ds : List PyData) : List PyData := ds.mergeSort (dataLe false id)
theorem srt_intsM (xs : List Int) : srtD (xs.map .int) = (srtI xs).map .int := by
  unfold srtD srtI
  refine (List.map_mergeSort fun a _ b _ => ?_).symm
  exact (congrFun (congrFun (PySem.W.dataLe_int (β := Int) fun b => b) a) b).symm
def sortQ (ds : List PyData) : List PyData := match intsOf ds with
  | some ns => (isI ns).map .int
  | none => srtD ds
theorem sortQ_eq (ds : List PyData) : sortQ ds = srtD ds := by
  unfold sortQ
  split
  · rename_i ns h
    rw [intsOf_eq h, srt_intsM, srtI_isI]
  · rfl
/-- the keys of a dict, whole numbers all -/
def keysI : List (PyData × PyData) → Option (List Int)
  | [] => some []
  | (.int i, _) :: r => (keysI r).map (i :: ·)
  | _ => none
theorem keysI_K {K : Fg} {H : Hp} : ∀ {es : List (PyData × PyData)} {kvs : List (Key × V)} {ks : List Int}, DnK K H kvs es → keysI es = some ks → kvs.map (·.1) = ks.map Sum.inl
  | [], _, ks, h, e => by cases h; simp only [keysI, Option.some.injEq] at e; subst e; rfl
  | (d, x) :: r, _, ks, h, e => by
    cases h with
    | @cons k v kvs _ _ h1 h2 =>
      cases k with
      | inr z => simp [keysI, kD] at e
      | inl i =>
        simp only [keysI, kD] at e
        obtain ⟨m, h3, rfl⟩ := Option.map_eq_some_iff.mp e
        rw [List.map_cons, List.map_cons, keysI_K h2 h3]
def gSorted : List PyData → Option Od
  | [.list ds] => if alikeB ds = true ∧ sortB ds = true ∧ deepB ds = true ∧ ds.length ≤ line then some (.fl (sortQ ds)) else none
  | [.tuple ds] => if alikeB ds = true ∧ sortB ds = true ∧ deepB ds = true ∧ ds.length ≤ line then some (.fl (sortQ ds)) else none
  | [.dict es] => if isScr es = true then none else (match keysI es with
    | some ks => if ks.length < 64 then some (.fl ((isI ks).map .int)) else none
    | none => none)
  | _ => none
/-- the list or tuple at p, of the values vs that read as ds -/
def rSortA (K : Fg) : List V → Hp → VK → Prop := fun xs H Q => ∃ (R : Hp) (p : Addr) (vs : List V) (ds : List PyData), Same R H ∧ xs = [.ref p] ∧ (SqL K H p vs ∨ SqT K H p vs) ∧ DnA K R vs ds ∧ alikeB ds = true ∧ sortB ds = true ∧ deepB ds = true ∧ ds.length ≤ line ∧
  ∀ (q : Addr) (ws : List V), H q = none → DnA K R ws (srtD ds) → Q (.ref q) (upd H q (.lst ws))
theorem cr_sortedA {X : Cx} (hu : X.A.units + 64 < cLine) : CallR X (.builtin "sorted") (rSortA X.K) := by
  intro pins s σ H xs us Q I r h
  obtain ⟨R, p, vs, ds, sR, rfl, hq, hd, ha, hs, hdp, hz, q⟩ := h
  obtain ⟨u, rfl, rx⟩ := vals1 r
  cases rx
  obtain ⟨its, T, o, n, rv, hT, ho, hc, hdat⟩ : ∃ (its : List Value) (T : String) (o : Obj) (n : Nat), L2.Vals vs its ∧ (T = "list" ∨ T = "tuple") ∧ s.heap.get? p = some o ∧ o.cls = .type T ∧ o.data = .seq its.toArray n := by
    rcases hq with hq | hq
    · obtain ⟨its, rv, ⟨o, n, ho, hc, _, hd⟩, _⟩ := I.list hq
      exact ⟨its, "list", o, n, rv, .inl rfl, ho, hc, hd⟩
    · obtain ⟨its, rv, ⟨o, ho, hc, n, hd⟩, _⟩ := I.tuple hq
      exact ⟨its, "tuple", o, n, rv, .inr rfl, ho, hc, hd⟩
  have hlen : its.length = ds.length := by rw [← rv.length, hd.length]
  have hL : its.length ≤ sizeLine := by rw [hlen, line_eq]; exact hz
  have e := each_of rv hd
  have er : EachIs (fun v b => ∃ as, Reads s.heap v b as) its ds := by
    have all := alikeB_ok ha
    rw [List.map_id] at all
    have key : ∀ {us : List Value} {bs : List PyData}, EachIs (UD X.K R) us bs → (∀ b ∈ bs, b ∈ ds) → EachIs (fun v b => ∃ as, Reads s.heap v b as) us bs := by
      intro us bs h
      induction h with
      | nil => intro _; exact .nil
      | cons h1 _ ih =>
        intro hm
        obtain ⟨v, h3, h4⟩ := h1
        obtain ⟨as, h5, _⟩ := Dn.reads I _ v _ (alike_plain _ (all _ (hm _ List.mem_cons_self) _ (hm _ List.mem_cons_self))) (h4.mono sR) h3
        exact .cons ⟨as, h5⟩ (ih fun b hb => hm b (List.mem_cons_of_mem _ hb))
    exact key e fun b hb => hb
  have hdep : ∀ b, b ∈ ds → b.depth ≤ 40 := fun b hb => of_decide_eq_true (List.all_eq_true.mp hdp b hb)
  refine call_function_entry_kw kind_sorted plain_sorted entry_sorted (args_sorted1 _) ?_
  unfold Builtin.«sorted»
  refine wpAny_bind (m := checkCount "sorted" 1 1 _) (wpAny_pure ?_)
  refine wpAny_bind (wpAny_collect_seq p hT ho hc hdat (fun h' kp => ?_) (by rw [List.size_toArray]; exact hL))
  simp only
  refine wpAny_bind (wpAny_newList ?_ (by simpa using hL))
  generalize hh2 : h'.push { cls := .type "list", data := .seq its.toArray } = h2
  have hat : h2.get? h'.objs.size = some (seqObj "list" its.toArray 0) := by rw [← hh2]; exact Heap.get?_push_size _ rfl
  have old2 : ∀ b o, h'.get? b = some o → h2.get? b = some o := fun b o e => by rw [← hh2]; exact Heap.get?_push_of_some _ e
  show wpAny _ _ _ _ _ { s with heap := h2 }
  have er' : EachIs (fun v b => ∃ as, Reads (sortingHeap h2 h'.objs.size its) v b as) its ds := er.mono fun _ _ ⟨as, r⟩ => ⟨as, PyProof.Rows.Reads.keeps (fun b o q => sortingHeap_old (Nat.ne_of_lt (Heap.lt_size (kp b o q))) (old2 b o (kp b o q))) r⟩
  have hu2 : ∀ b, b ∈ ds → X.A.in1.in1.units + (id b : PyData).depth < cLine := fun b hb => by
    have := hdep b hb
    show X.A.units + 1 + 1 + b.depth < cLine
    omega
  refine wpAny_bind (wpAny_holding (wpAny_call_entry_kw slot_list_sort ⟨_, hat, rfl⟩ entry_list_sort ?body (args_list_sort _)))
  case body =>
    refine list_sort_vals (n := 0) (κ := dataKind (sortingHeap h2 h'.objs.size its) (ds.map id)) (s := { s with heap := h2 }) hat
      (SortsAt.data (s := { s with heap := sortingHeap h2 h'.objs.size its }) (by rw [List.map_id]; exact er') (alikeB_ok ha) (sortB_ok hs) (bound_map hu2)) hL ⟨_, rfl, ?_⟩
    obtain ⟨ep, he'⟩ := sortedHeap_at (out := (sortVals (dataKind (sortingHeap h2 h'.objs.size its) (ds.map id)) false its its).toArray) hat
    have hout := sortVals_data false e er' (alikeB_ok ha)
    obtain ⟨ws, r2, d2⟩ := of_each hout
    have I1 : L2.Inv X pins σ H { s with heap := h' } := I.kept (t' := s.toks) kp
    have nf : H h'.objs.size = none := I1.hok.fresh (Nat.le_refl _)
    refine wpAny_pure ⟨.ref h'.objs.size, rfl, .ref h'.objs.size, upd H h'.objs.size (.lst ws), ?_, rfl, q _ ws nf d2⟩
    refine I1.laid (a := h'.objs.size) (o := .lst ws) (t' := s.toks) (fun b o q => ?_) (Nat.le_refl _) ?_
    · have q : h'.get? b = some o := q
      have hlt : b < h'.objs.size := Heap.lt_size q
      show (sortedHeap h2 h'.objs.size its _).get? b = some o
      rw [sortedHeap_old (Nat.ne_of_lt hlt) (by rw [← hh2, Heap.size_push]; exact Nat.lt_succ_of_lt hlt)]
      exact old2 b o q
    · refine ⟨?_, _, ep, r2, he'⟩
      rw [d2.length, line_eq]
      show (ds.mergeSort _).length ≤ line
      rw [List.length_mergeSort]
      exact hz
end PV
namespace PV
open PySem PySem.Spec PyProof.Rows L2
section
variable {X : Cx} {B : Bs} {W : Wx} {a b c : Expr} {fa fb fc : Ev → Rs Rv} {pos p2 p : Pos}
/-! ### slices -/
def cutD (ds : List PyData) (lo hi : Option Int) : List PyData := (ds.drop (HT.sIx ds.length 0 lo)).take (HT.sIx ds.length ds.length hi - HT.sIx ds.length 0 lo)
theorem cut_dn {K : Fg} {H : Hp} {vs : List V} {ds : List PyData} {lo hi : Option Int} (h : DnA K H vs ds) : DnA K H (cutV vs lo hi) (cutD ds lo hi) := by
  unfold cutV cutD
  rw [h.length]
  exact (h.drop _).take _
def gSl (d : PyData) (lo hi : Option Int) : Option Od := match d with
  | .tuple ds => some (.sh (.tuple (cutD ds lo hi)))
  | .list ds => some (.fl (cutD ds lo hi))
  | .str x => if x.length ≤ line then some (.sh (.str (cutS x lo hi))) else none
  | _ => none
def rSlB (K : Fg) : V → Option Int → Option Int → Hp → VK → Prop := fun x lo hi H Q => rSlA K x lo hi H Q ∨ rSlL K x lo hi H Q ∨ rSlS x lo hi H Q
theorem sl_any : L2.SlR X (rSlB X.K) := sl_tupA.or (sl_list.or sl_str)
theorem cut_whole {ds : List PyData} {lo hi : Option Int} (h : HT.sIx ds.length 0 lo = 0 ∧ HT.sIx ds.length ds.length hi = ds.length) : cutD ds lo hi = ds := by
  unfold cutD
  rw [h.1, h.2, List.drop_zero, Nat.sub_zero, List.take_length]
theorem gSl_ok {K : Fg} {R H : Hp} {x : V} {d : PyData} {lo hi : Option Int} {o : Od} {Q : VK} (s : Same R H) (hx : Dc K R H x d) (hg : gSl d lo hi = some o) (q : ResQ K R H o.rv Q) : rSlB K x lo hi H Q := by
  unfold gSl at hg
  split at hg
  · cases Option.some.inj hg
    obtain ⟨a, vs, rfl, h1, h2⟩ := dc_tup hx
    refine .inl ⟨a, vs, rfl, sqT_same s h1, fun hw => ?_, fun _ p hp => ?_⟩
    · rw [h2.length] at hw
      rw [cut_whole hw] at q
      exact q.1 _ (.tup h1 h2)
    · exact q.2 p _ hp (.tup (SqT.of upd_same) ((cut_dn h2).mono (same_new (s.free hp))))
  · cases Option.some.inj hg
    obtain ⟨a, vs, rfl, h1, h2⟩ := dc_lst s hx
    exact .inr (.inl ⟨a, vs, rfl, SqL.of h1, fun p hp => q p _ hp (cut_dn h2)⟩)
  · obtain ⟨hz, rfl⟩ := ite_some hg
    rw [dc_str hx]
    exact .inr (.inr ⟨_, rfl, by rw [line_eq]; exact hz, q.1 _ (.str _)⟩)
  · cases hg
/-- a part of a slice -/
def fNoP (e : Ev) : Rs (Option Int) := .ok none e
def fPart (fa : Ev → Rs Rv) (e : Ev) : Rs (Option Int) := (fa e).bind fun ra e1 => match res e1 ra with
  | some (.int i) => .ok (some i) e1
  | _ => .bad
def AfterP (K : Fg) (B : Bs) (W : Wx) (σ : L2.St) (R H : Hp) (e : Ev) (r : Rs (Option Int)) (Q : Option Int → Hp → Prop) : Prop := match r with
  | .ok b e' => ∀ R' H', Same R R' → Rel K B R' σ H' e' → Frm σ e H H' → Tr e e' → Q b H'
  | .ex c => exq B W c
  | .bad => False
def tP (K : Fg) (B : Bs) (W : Wx) (f : Ev → Rs (Option Int)) : TO := fun σ H Q => ∃ R e, Rel K B R σ H e ∧ AfterP K B W σ R H e (f e) Q
abbrev DP (X : Cx) (B : Bs) (W : Wx) (a : Option Expr) (f : Ev → Rs (Option Int)) : Prop := PO X a (tP X.K B W f)
theorem po_imp {o : Option Expr} {t t' : TO} (h : PO X o t) (i : ∀ σ H Q, t' σ H Q → t σ H Q) : PO X o t' := ⟨fun pins s σ H Q I q => h.run pins s σ H Q I (i σ H Q q)⟩
theorem dp_none : DP X B W none fNoP := po_imp po_none fun σ H Q ⟨R, e, r, h⟩ => h R H (Same.refl _) r .refl (.refl _)
theorem dp_some (h : DX X B W a fa) : DP X B W (some a) (fPart fa) := by
  refine po_imp (po_some h) fun σ H Q h => ?_
  obtain ⟨R, e, r, h⟩ := h
  refine ⟨R, e, r, ?_⟩
  have h : AfterP X.K B W σ R H e ((fa e).bind fun ra e1 => match res e1 ra with
    | some (.int i) => .ok (some i) e1
    | _ => .bad) Q := h
  cases q : fa e with
  | ex c => rw [q] at h; exact h
  | bad => rw [q] at h; exact h
  | ok ra e1 =>
    rw [q] at h
    intro x R1 H1 s1 r1 f1 t1 v1
    simp only [Rs.bind] at h
    split at h
    · rename_i i qd
      exact ⟨i, dc_int (v1.dc r1 qd), h R1 H1 s1 r1 f1 t1⟩
    · exact h.elim
def fSl (fa : Ev → Rs Rv) (fl fh : Ev → Rs (Option Int)) (e : Ev) : Rs Rv := (stab (fa e)).bind fun ra e1 => (fl e1).bind fun lo e2 => (fh e2).bind fun hi e3 => match (res e3 ra).bind fun d => gSl d lo hi with
  | some o => .ok o.rv e3
  | none => .bad
theorem tP_bind {K : Fg} {ga : Ev → Rs (Option Int)} {k : Option Int → Ev → Rs Rv} {σ : L2.St} {H R : Hp} {e : Ev} {Q : VK} (r : Rel K B R σ H e) (h : After K B W σ R H e ((ga e).bind k) Q) :
    tP K B W ga σ H fun b H1 => ∃ R1 e1, Same R R1 ∧ Tr e e1 ∧ Rel K B R1 σ H1 e1 ∧ After K B W σ R1 H1 e1 (k b e1) Q := by
  refine ⟨R, e, r, ?_⟩
  cases q : ga e with
  | ex c => rw [q] at h; exact h
  | bad => rw [q] at h; exact h
  | ok b e1 =>
    rw [q] at h
    exact fun R1 H1 s1 r1 f1 t1 => ⟨R1, e1, s1, t1, r1, after_seq s1 f1 t1 h⟩
theorem tp_mono {K : Fg} {ga : Ev → Rs (Option Int)} {σ : L2.St} {H : Hp} {Q Q' : Option Int → Hp → Prop} (h : tP K B W ga σ H Q) (i : ∀ v H, Q v H → Q' v H) : tP K B W ga σ H Q' := by
  obtain ⟨R, e, r, h⟩ := h
  refine ⟨R, e, r, ?_⟩
  cases q : ga e with
  | ex c => rw [q] at h; exact h
  | bad => rw [q] at h; exact h
  | ok k e1 => rw [q] at h; exact fun R1 H1 s1 r1 f1 t1 => i _ _ (h R1 H1 s1 r1 f1 t1)
theorem dx_slice {lo hi : Option Expr} {fl fh : Ev → Rs (Option Int)} (ha : DX X B W a fa) (hl : DP X B W lo fl) (hh : DP X B W hi fh) : DX X B W (.Subscript a (.Slice lo hi none p2) pos) (fSl fa fl fh) := by
  refine pe_imp (pe_slice sl_any (dx_stab ha) hl hh) fun σ H Q h => ?_
  obtain ⟨R, e, rl, h⟩ := h
  refine te_mono (tX_bindS rl h) fun x H1 ⟨R1, e1, ra, qa, s1, t1, r1, v1, h⟩ => ?_
  refine tp_mono (tP_bind r1 h) fun lo H2 ⟨R2, e2, s2, t2, r2, h⟩ => ?_
  refine tp_mono (tP_bind r2 h) fun hi H3 ⟨R3, e3, s3, t3, r3, h⟩ => ?_
  have v3 := VR.keep (H' := H3) (stab_ok qa) v1 (s2.trans s3) (t2.trans t3)
  cases qd : res e3 ra with
  | none => rw [qd] at h; exact h.elim
  | some d =>
    rw [qd] at h
    simp only [Option.bind_some] at h
    cases qo : gSl d lo hi with
    | none => rw [qo] at h; exact h.elim
    | some o =>
      rw [qo] at h
      exact gSl_ok r3.sub (v3.dc r3 qd) qo (resQ_of r3 (fun i => by cases o <;> exact fun z => nomatch z) h)

/-! ### built-ins -/
inductive DcA (K : Fg) (R H : Hp) : List V → List PyData → Prop
  | nil : DcA K R H [] []
  | cons {v vs d ds} : Dc K R H v d → DcA K R H vs ds → DcA K R H (v :: vs) (d :: ds)
def resL (e : Ev) : List Rv → Option (List PyData)
  | [] => some []
  | r :: rs => match res e r, resL e rs with
    | some d, some ds => some (d :: ds)
    | _, _ => none
theorem resL_dc {K : Fg} {R H : Hp} {σ : L2.St} {e : Ev} (r : Rel K B R σ H e) : ∀ {vs : List V} {rvs : List Rv} {ds : List PyData}, VRs K B R H σ e vs rvs → resL e rvs = some ds → DcA K R H vs ds
  | _, _, _, .nil, h => by simp only [resL, Option.some.injEq] at h; subst h; exact .nil
  | _, _, _, @VRs.cons _ _ _ _ _ _ v vs rv rvs h1 hs h2, h => by
    simp only [resL] at h
    cases q1 : res e rv with
    | none => rw [q1] at h; cases h
    | some d =>
      cases q2 : resL e rvs with
      | none => rw [q1, q2] at h; cases h
      | some ds =>
        rw [q1, q2] at h
        cases Option.some.inj h
        exact .cons (h1.dc r q1) (resL_dc r h2 q2)
def CalD (K : Fg) (r : List V → Hp → VK → Prop) (g : List PyData → Option Od) : Prop :=
  ∀ (R H : Hp) (xs : List V) (ds : List PyData) (o : Od) (Q : VK), Same R H → DcA K R H xs ds → g ds = some o → ResQ K R H o.rv Q → r xs H Q
def fCal (g : List PyData → Option Od) (fl : Ev → Rs (List Rv)) (e : Ev) : Rs Rv := (fl e).bind fun rvs e1 => match (resL e1 rvs).bind g with
  | some o => .ok o.rv e1
  | none => .bad
theorem cal_of {K : Fg} {r : List V → Hp → VK → Prop} {g : List PyData → Option Od} {fl : Ev → Rs (List Rv)} {σ : L2.St} {H : Hp} {Q : VK} (hg : CalD K r g) (h : tX K B W (fCal g fl) σ H Q) : tCB r (tL K B W fl) σ H Q := by
  refine tl_mono (tL_bind h) fun xs H1 ⟨R, e, rvs, rl, v, h⟩ => ?_
  cases qd : resL e rvs with
  | none => rw [qd] at h; exact h.elim
  | some ds =>
    rw [qd] at h
    simp only [Option.bind_some] at h
    cases qo : g ds with
    | none => rw [qo] at h; exact h.elim
    | some o =>
      rw [qo] at h
      exact hg R H1 xs ds o Q rl.sub (resL_dc rl v qd) qo (resQ_of rl (fun i => by cases o <;> exact fun z => nomatch z) h)
def noStar : List Expr → Bool
  | [] => true
  | .Starred _ _ :: _ => false
  | _ :: r => noStar r
theorem star_cons {e : Expr} {es : List Expr} {env : Env} (h : noStar (e :: es) = true) : starEach (e :: es) env = (false, eval e env) :: starEach es env := by
  cases e <;> first | rfl | (simp [noStar] at h)
theorem noStar_tail {e : Expr} {es : List Expr} (h : noStar (e :: es) = true) : noStar es = true := by
  cases e <;> first | exact h | (simp [noStar] at h)
theorem noStar_flat : ∀ {es : List Expr} {env : Env} {pos : Pos}, noStar es = true → (backTo pos (starEach es env)).any (·.1) = false
  | [], _, _, _ => rfl
  | e :: es, env, pos, h => by
    rw [star_cons h]
    show (false || (backTo pos (starEach es env)).any (·.1)) = false
    rw [noStar_flat (noStar_tail h)]; rfl
theorem dx_callB {x : Str} {id : String} {e0 : Expr} {es : List Expr} {r : List V → Hp → VK → Prop} {g : List PyData → Option Od} {fl : Ev → Rs (List Rv)} (hc : CallR X (.builtin id) r) (hgd : CalD X.K r g) (hg : Gl X x) (hm : X.mg x = none) (hv : bootBuiltins x = some (.builtin id))
    (hs : noStar (e0 :: es) = true) (ha : DL X B W (e0 :: es) fl) (hn : x ≠ "__name__") (hdb : (x == ("__debug__" : Str)) = false) : DX X B W (.Call (.Name x p) (e0 :: es) [] pos) (fCal g fl) :=
  pe_imp (pe_callB hc hg hm hv ha hn hdb (star_cons hs) (noStar_flat (noStar_tail hs))) fun _ _ _ h => cal_of hgd h
theorem dx_callTy {x : Str} {T : String} {e0 : Expr} {es : List Expr} {r : List V → Hp → VK → Prop} {g : List PyData → Option Od} {fl : Ev → Rs (List Rv)} (hc : CallR X (.type T) r) (hgd : CalD X.K r g) (hg : Gl X x) (hm : X.mg x = none) (hv : bootBuiltins x = some (.type T))
    (hs : noStar (e0 :: es) = true) (ha : DL X B W (e0 :: es) fl) (hn : x ≠ "__name__") (hdb : (x == ("__debug__" : Str)) = false) : DX X B W (.Call (.Name x p) (e0 :: es) [] pos) (fCal g fl) :=
  pe_imp (pe_callTy hc hg hm hv ha hn hdb (star_cons hs) (noStar_flat (noStar_tail hs))) fun _ _ _ h => cal_of hgd h
end
/-! ### which -/
section
variable {K : Fg} {R H : Hp}
theorem dcA1 {xs : List V} {d : PyData} (h : DcA K R H xs [d]) : ∃ v, xs = [v] ∧ Dc K R H v d := by
  cases h with | cons a b => cases b; exact ⟨_, rfl, a⟩
theorem dcA2 {xs : List V} {d d' : PyData} (h : DcA K R H xs [d, d']) : ∃ v w, xs = [v, w] ∧ Dc K R H v d ∧ Dc K R H w d' := by
  cases h with | cons a b => cases b with | cons c d => cases d; exact ⟨_, _, rfl, a, c⟩
end
def gLen : List PyData → Option Od
  | [.list ds] => some (.sh (.int ds.length))
  | [.tuple ds] => some (.sh (.int ds.length))
  | [.str x] => if x.length ≤ line then some (.sh (.int x.length)) else none
  | [.dict es] => if isScr es = true then (match es with
      | [(.none, .list ds)] => some (.sh (.int ds.length))
      | _ => none) else some (.sh (.int es.length))
  | _ => none
theorem scr_sq {K : Fg} {R H : Hp} {v : V} {ds : List PyData} (h : Dc K R H v (.dict [(.none, .list ds)])) : ∃ (a : Addr) (ns : List Int), v = .ref a ∧ ds = ns.map .int ∧ SqL K R a (ns.map V.int) := by
  have key : ∀ {v : V}, Dn K R v (.dict [(.none, .list ds)]) → ∃ (a : Addr) (ns : List Int), v = .ref a ∧ ds = ns.map .int ∧ SqL K R a (ns.map V.int) := fun {v} h => by
    generalize hd : (PyData.dict [(.none, .list ds)]) = d at h
    cases h with
    | dct h1 h2 => cases hd; exact absurd h2.scr (by simp [isScr])
    | scr ms h =>
      simp only [scrD, PyData.dict.injEq, List.cons.injEq, Prod.mk.injEq, PyData.list.injEq, true_and, and_true] at hd
      exact ⟨_, ms, rfl, hd, h⟩
    | _ => cases hd
  generalize hd : (PyData.dict [(.none, .list ds)]) = d at h
  cases h with
  | st h => rw [← hd] at h; exact key h
  | lst _ _ => cases hd
  | dct h1 h2 => cases hd; exact absurd h2.scr (by simp [isScr])
theorem DnK.length {K : Fg} {H : Hp} : ∀ {kvs : List (Key × V)} {es : List (PyData × PyData)}, DnK K H kvs es → kvs.length = es.length
  | _, _, .nil => rfl
  | _, _, .cons _ b => congrArg (· + 1) (DnK.length b)
def rLenA (K : Fg) : List V → Hp → VK → Prop := fun xs H Q => (∃ x n, xs = [x] ∧ LenV K x H n ∧ Q (.int n) H) ∨ ∃ d kvs, xs = [.ref d] ∧ H d = some (.dK kvs) ∧ Q (.int (kvs.length : Nat)) H
theorem gLen_ok {K : Fg} : CalD K (rLenA K) gLen := by
  intro R H xs ds o Q s h hg q
  unfold gLen at hg
  split at hg
  · cases Option.some.inj hg
    obtain ⟨v, rfl, hx⟩ := dcA1 h
    obtain ⟨a, vs, rfl, h1, h2⟩ := dc_lst s hx
    exact .inl ⟨_, _, rfl, .inl ⟨vs, SqL.of h1, h2.length.symm⟩, q.1 _ (.int _)⟩
  · cases Option.some.inj hg
    obtain ⟨v, rfl, hx⟩ := dcA1 h
    obtain ⟨a, vs, rfl, h1, h2⟩ := dc_tup hx
    exact .inl ⟨_, _, rfl, .inr ⟨vs, sqT_same s h1, h2.length.symm⟩, q.1 _ (.int _)⟩
  · obtain ⟨hz, rfl⟩ := ite_some hg
    obtain ⟨v, rfl, hx⟩ := dcA1 h
    rw [dc_str hx]
    exact .inl ⟨_, _, rfl, ⟨by rw [line_eq]; exact hz, rfl⟩, q.1 _ (.int _)⟩
  · rename_i es
    obtain ⟨v, rfl, hx⟩ := dcA1 h
    by_cases hs : isScr es = true
    · rw [if_pos hs] at hg
      split at hg
      · cases Option.some.inj hg
        obtain ⟨a, ns, rfl, rfl, hq⟩ := scr_sq hx
        exact .inl ⟨_, _, rfl, .inl ⟨_, s.seq hq, by rw [List.length_map, List.length_map]⟩, q.1 _ (.int _)⟩
      · cases hg
    · rw [if_neg hs] at hg
      cases Option.some.inj hg
      obtain ⟨a, kvs, rfl, h1, h2⟩ := dc_dct s hs hx
      refine .inr ⟨a, kvs, rfl, h1, ?_⟩
      rw [h2.length]
      exact q.1 _ (.int _)
  · cases hg
/-- whole numbers are read -/
theorem reads_ints {g : Heap} : ∀ {its : List Value} {ns : List Int}, L2.Vals (ns.map V.int) its → ∃ as, ReadsAll g its (ns.map .int) as
  | [], [], _ => ⟨_, .nil⟩
  | [], _ :: _, h => nomatch h
  | _ :: _, [], h => nomatch h
  | v :: its, n :: ns, h => by
    cases h with
    | cons r t =>
      obtain ⟨tk, rfl⟩ := r
      obtain ⟨as, ha⟩ := reads_ints t
      exact ⟨_, .cons (.int n tk) ha⟩
theorem alikeInts {n : Int} {ns : List Int} : PySem.W.AlikeAll (.int n :: ns.map .int) := by
  refine ⟨fun x hx y hy => ?_, fun x hx => ?_⟩
  · have h1 : ∀ z ∈ (PyData.int n :: ns.map .int), ∃ i, z = .int i := fun z hz => by
      rcases List.mem_cons.mp hz with r | r
      · exact ⟨n, r⟩
      · obtain ⟨i, _, rfl⟩ := List.mem_map.mp r; exact ⟨i, rfl⟩
    obtain ⟨i, rfl⟩ := h1 x hx
    obtain ⟨j, rfl⟩ := h1 y hy
    rfl
  · rcases List.mem_cons.mp hx with r | r
    · rw [r]; exact fun z => nomatch z
    · obtain ⟨i, _, rfl⟩ := List.mem_map.mp r; exact fun z => nomatch z
theorem depthInts : ∀ ns : List Int, PyData.depthAll (ns.map .int) = 0
  | [] => rfl
  | n :: ns => by
    show max 0 (PyData.depthAll (ns.map .int)) = 0
    rw [depthInts ns]; rfl
/-- max, min of whole numbers in a list or a tuple -/
def rBest (K : Fg) (f : Int → Int → Int) : List V → Hp → VK → Prop := fun xs H Q => ∃ (a : Addr) (n : Int) (ns : List Int), xs = [.ref a] ∧ (SqL K H a ((n :: ns).map V.int) ∨ SqT K H a ((n :: ns).map V.int)) ∧ Q (.int (ns.foldl f n)) H
theorem cr_maxI {X : Cx} (calm : X.calm = true) (hu : X.A.units + 64 < cLine) : CallR X (.builtin "max") (rBest X.K max) := by
  intro pins s σ H xs us Q I r h
  obtain ⟨a, n, ns, rfl, hq, q⟩ := h
  have fin : ∀ {i : Nat} {v : Value} {g : Heap} {tk : Nat} {bs : List Addr}, Reads g v (PySem.W.maxD (.int n) (ns.map .int)) bs → (∀ b o, s.heap.get? b = some o → g.get? b = some o) → EP X pins σ Q v { s with heap := g, toks := tk } := fun {i v g tk bs} hr hk => by
    rw [PySem.W.maxD_ints] at hr
    cases hr
    exact ⟨.int _, H, I.kept hk, ⟨_, rfl⟩, q⟩
  have hd : X.A.units + 1 + PyData.depthAll (.int n :: ns.map .int) < cLine := by
    have := depthInts (n :: ns)
    rw [show (PyData.int n :: ns.map .int) = (n :: ns).map .int from rfl, this]
    omega
  rw [Vals.ref1 r]
  rcases hq with hq | hq
  · obtain ⟨its, rv, hl, _⟩ := I.list hq
    obtain ⟨as, ha⟩ := reads_ints (g := s.heap) rv
    exact PySem.W.max_list_data (I.ok.hd calm) hl.isList ha alikeInts hd fun i v g tk bs _ hr hk => fin (i := i) hr hk
  · obtain ⟨its, rv, hl, _⟩ := I.tuple hq
    obtain ⟨as, ha⟩ := reads_ints (g := s.heap) rv
    exact PySem.W.max_tuple_data (I.ok.hd calm) (show s.heap.IsTuple a its.toArray from hl) ha alikeInts hd fun i v g tk bs _ hr hk => fin (i := i) hr hk
theorem cr_minI {X : Cx} (calm : X.calm = true) (hu : X.A.units + 64 < cLine) : CallR X (.builtin "min") (rBest X.K min) := by
  intro pins s σ H xs us Q I r h
  obtain ⟨a, n, ns, rfl, hq, q⟩ := h
  have fin : ∀ {i : Nat} {v : Value} {g : Heap} {tk : Nat} {bs : List Addr}, Reads g v (PySem.W.minD (.int n) (ns.map .int)) bs → (∀ b o, s.heap.get? b = some o → g.get? b = some o) → EP X pins σ Q v { s with heap := g, toks := tk } := fun {i v g tk bs} hr hk => by
    rw [PySem.W.minD_ints] at hr
    cases hr
    exact ⟨.int _, H, I.kept hk, ⟨_, rfl⟩, q⟩
  have hd : X.A.units + 1 + PyData.depthAll (.int n :: ns.map .int) < cLine := by
    have := depthInts (n :: ns)
    rw [show (PyData.int n :: ns.map .int) = (n :: ns).map .int from rfl, this]
    omega
  rw [Vals.ref1 r]
  rcases hq with hq | hq
  · obtain ⟨its, rv, hl, _⟩ := I.list hq
    obtain ⟨as, ha⟩ := reads_ints (g := s.heap) rv
    exact PySem.W.min_list_data (I.ok.hd calm) hl.isList ha alikeInts hd fun i v g tk bs _ hr hk => fin (i := i) hr hk
  · obtain ⟨its, rv, hl, _⟩ := I.tuple hq
    obtain ⟨as, ha⟩ := reads_ints (g := s.heap) rv
    exact PySem.W.min_tuple_data (I.ok.hd calm) (show s.heap.IsTuple a its.toArray from hl) ha alikeInts hd fun i v g tk bs _ hr hk => fin (i := i) hr hk
def bestI (f : Int → Int → Int) (ds : List PyData) : Option Od := match intsOf ds with
  | some (n :: ns) => some (.sh (.int (ns.foldl f n)))
  | _ => none
def gMax : List PyData → Option Od
  | [.int a, .int b] => some (.sh (.int (if b > a then b else a)))
  | [.list ds] => bestI max ds
  | [.tuple ds] => bestI max ds
  | _ => none
def gMin : List PyData → Option Od
  | [.int a, .int b] => some (.sh (.int (if b < a then b else a)))
  | [.list ds] => bestI min ds
  | [.tuple ds] => bestI min ds
  | _ => none
theorem best_lst {K : Fg} {f : Int → Int → Int} {R H : Hp} {xs : List V} {ds : List PyData} {o : Od} {Q : VK} (s : Same R H) (h : DcA K R H xs [.list ds]) (hg : bestI f ds = some o) (q : ResQ K R H o.rv Q) : rBest K f xs H Q := by
  unfold bestI at hg
  split at hg
  · rename_i n ns h1
    cases hg
    obtain ⟨v, rfl, hx⟩ := dcA1 h
    obtain ⟨a, vs, rfl, e1, e2⟩ := dc_lst s hx
    cases intsOf_eq h1
    cases e2.of_ints
    exact ⟨a, n, ns, rfl, .inl (SqL.of e1), q.1 _ (.int _)⟩
  · cases hg
theorem best_tup {K : Fg} {f : Int → Int → Int} {R H : Hp} {xs : List V} {ds : List PyData} {o : Od} {Q : VK} (s : Same R H) (h : DcA K R H xs [.tuple ds]) (hg : bestI f ds = some o) (q : ResQ K R H o.rv Q) : rBest K f xs H Q := by
  unfold bestI at hg
  split at hg
  · rename_i n ns h1
    cases hg
    obtain ⟨v, rfl, hx⟩ := dcA1 h
    obtain ⟨a, vs, rfl, e1, e2⟩ := dc_tup hx
    cases intsOf_eq h1
    cases e2.of_ints
    exact ⟨a, n, ns, rfl, .inr (sqT_same s e1), q.1 _ (.int _)⟩
  · cases hg
theorem gMax_ok {K : Fg} : CalD K (fun xs H Q => (∃ i j, xs = [.int i, .int j] ∧ Q (.int (if j > i then j else i)) H) ∨ rBest K max xs H Q) gMax := by
  intro R H xs ds o Q s h hg q
  unfold gMax at hg
  split at hg
  · cases Option.some.inj hg
    obtain ⟨v, w, rfl, h1, h2⟩ := dcA2 h
    rw [dc_int h1, dc_int h2]
    exact .inl ⟨_, _, rfl, q.1 _ (.int _)⟩
  · exact .inr (best_lst s h hg q)
  · exact .inr (best_tup s h hg q)
  · cases hg
theorem gMin_ok {K : Fg} : CalD K (fun xs H Q => (∃ i j, xs = [.int i, .int j] ∧ Q (.int (if j < i then j else i)) H) ∨ rBest K min xs H Q) gMin := by
  intro R H xs ds o Q s h hg q
  unfold gMin at hg
  split at hg
  · cases Option.some.inj hg
    obtain ⟨v, w, rfl, h1, h2⟩ := dcA2 h
    rw [dc_int h1, dc_int h2]
    exact .inl ⟨_, _, rfl, q.1 _ (.int _)⟩
  · exact .inr (best_lst s h hg q)
  · exact .inr (best_tup s h hg q)
  · cases hg
def gTuple : List PyData → Option Od
  | [.list ds] => some (.sh (.tuple ds))
  | [.tuple ds] => some (.sh (.tuple ds))
  | _ => none
theorem gTuple_ok {K : Fg} : CalD K (fun xs H Q => ∃ p ys, xs = [.ref p] ∧ ((SqL K H p ys ∧ ∀ l, H l = none → Q (.ref l) (upd H l (.tup ys))) ∨ (SqT K H p ys ∧ Q (.ref p) H))) gTuple := by
  intro R H xs ds o Q s h hg q
  unfold gTuple at hg
  split at hg
  · cases Option.some.inj hg
    obtain ⟨v, rfl, hx⟩ := dcA1 h
    obtain ⟨a, vs, rfl, h1, h2⟩ := dc_lst s hx
    exact ⟨a, vs, rfl, .inl ⟨SqL.of h1, fun p hp => q.2 p _ hp (.tup (SqT.of upd_same) (h2.mono (same_new (s.free hp))))⟩⟩
  · cases Option.some.inj hg
    obtain ⟨v, rfl, hx⟩ := dcA1 h
    obtain ⟨a, vs, rfl, h1, h2⟩ := dc_tup hx
    exact ⟨a, vs, rfl, .inr ⟨sqT_same s h1, q.1 _ (.tup h1 h2)⟩⟩
  · cases hg
def gList : List PyData → Option Od
  | [.list ds] => some (.fl ds)
  | [.tuple ds] => some (.fl ds)
  | _ => none
theorem gList_ok {K : Fg} : CalD K (fun xs H Q => ∃ p ys, xs = [.ref p] ∧ (SqL K H p ys ∨ SqT K H p ys) ∧ ∀ l, H l = none → Q (.ref l) (upd H l (.lst ys))) gList := by
  intro R H xs ds o Q s h hg q
  unfold gList at hg
  split at hg
  · cases Option.some.inj hg
    obtain ⟨v, rfl, hx⟩ := dcA1 h
    obtain ⟨a, vs, rfl, h1, h2⟩ := dc_lst s hx
    exact ⟨a, vs, rfl, .inl (SqL.of h1), fun p hp => q p _ hp h2⟩
  · cases Option.some.inj hg
    obtain ⟨v, rfl, hx⟩ := dcA1 h
    obtain ⟨a, vs, rfl, h1, h2⟩ := dc_tup hx
    exact ⟨a, vs, rfl, .inr (sqT_same s h1), fun p hp => q p _ hp h2⟩
  · cases hg
def rSortK : List V → Hp → VK → Prop := fun xs H Q => ∃ (a : Addr) (kvs : List (Key × V)) (ks : List Int), xs = [.ref a] ∧ Rd H a (.dK kvs) ∧ kvs.map (·.1) = ks.map Sum.inl ∧ ks.length < 64 ∧
    ∀ (ys : List Int) (p : Addr), ys.Perm ks → ys.Pairwise (· ≤ ·) → H p = none → Q (.ref p) (upd H p (.lst (ys.map V.int)))
theorem gSorted_ok {K : Fg} : CalD K (fun xs H Q => rSortA K xs H Q ∨ rSortK xs H Q) gSorted := by
  intro R H xs ds o Q s h hg q
  unfold gSorted at hg
  split at hg
  · obtain ⟨⟨h1, h2, h3, h4⟩, rfl⟩ := ite_some hg
    obtain ⟨v, rfl, hx⟩ := dcA1 h
    obtain ⟨a, vs, rfl, e1, e2⟩ := dc_lst s hx
    exact .inl ⟨R, a, vs, _, s, rfl, .inl (SqL.of e1), e2, h1, h2, h3, h4, fun p ws hp hw => q p ws hp (by rw [sortQ_eq]; exact hw)⟩
  · obtain ⟨⟨h1, h2, h3, h4⟩, rfl⟩ := ite_some hg
    obtain ⟨v, rfl, hx⟩ := dcA1 h
    obtain ⟨a, vs, rfl, e1, e2⟩ := dc_tup hx
    exact .inl ⟨R, a, vs, _, s, rfl, .inr (sqT_same s e1), e2, h1, h2, h3, h4, fun p ws hp hw => q p ws hp (by rw [sortQ_eq]; exact hw)⟩
  · rename_i es
    split at hg
    · cases hg
    · rename_i hs
      split at hg
      · rename_i ks hk
        obtain ⟨hz, rfl⟩ := ite_some hg
        obtain ⟨v, rfl, hx⟩ := dcA1 h
        obtain ⟨a, kvs, rfl, h1, h2⟩ := dc_dct s hs hx
        refine .inr ⟨a, kvs, ks, rfl, Rd.of h1, keysI_K h2 hk, hz, fun ys p hp hw hn => ?_⟩
        rw [isI_one hp hw]
        exact q p _ hn (DnA.ints _)
      · cases hg
  · cases hg
def boolsOf : List PyData → Option (List Bool)
  | [] => some []
  | .bool i :: r => (boolsOf r).map (i :: ·)
  | _ => none
theorem boolsOf_eq : ∀ {ds : List PyData} {ns : List Bool}, boolsOf ds = some ns → ds = ns.map .bool
  | [], ns, h => by simp only [boolsOf, Option.some.injEq] at h; subst h; rfl
  | .bool i :: r, ns, h => by
    simp only [boolsOf] at h
    obtain ⟨m, h1, rfl⟩ := Option.map_eq_some_iff.mp h
    rw [boolsOf_eq h1]; rfl
  | .none :: _, _, h => by simp [boolsOf] at h
  | .int _ :: _, _, h => by simp [boolsOf] at h
  | .str _ :: _, _, h => by simp [boolsOf] at h
  | .list _ :: _, _, h => by simp [boolsOf] at h
  | .tuple _ :: _, _, h => by simp [boolsOf] at h
  | .dict _ :: _, _, h => by simp [boolsOf] at h
theorem DnA.of_bools {K : Fg} {H : Hp} : ∀ {ns : List Bool} {vs : List V}, DnA K H vs (ns.map .bool) → vs = ns.map V.bl
  | [], _, h => by cases h; rfl
  | n :: ns, _, h => by
    cases h with
    | cons a b => cases a; rw [DnA.of_bools b]; rfl
def gAll : List PyData → Option Od
  | [.list ds] => (boolsOf ds).map fun bs => .sh (.bool (bs.all id))
  | _ => none
def gAny : List PyData → Option Od
  | [.list ds] => (boolsOf ds).map fun bs => .sh (.bool (bs.any id))
  | _ => none
theorem gAll_ok {K : Fg} : CalD K (rAll K) gAll := by
  intro R H xs ds o Q s h hg q
  unfold gAll at hg
  split at hg
  · obtain ⟨bs, h1, rfl⟩ := Option.map_eq_some_iff.mp hg
    obtain ⟨v, rfl, hx⟩ := dcA1 h
    obtain ⟨a, vs, rfl, e1, e2⟩ := dc_lst s hx
    cases boolsOf_eq h1
    cases e2.of_bools
    exact ⟨a, bs, rfl, SqL.of e1, q.1 _ (.bl _)⟩
  · cases hg
theorem gAny_ok {K : Fg} : CalD K (rAny K) gAny := by
  intro R H xs ds o Q s h hg q
  unfold gAny at hg
  split at hg
  · obtain ⟨bs, h1, rfl⟩ := Option.map_eq_some_iff.mp hg
    obtain ⟨v, rfl, hx⟩ := dcA1 h
    obtain ⟨a, vs, rfl, e1, e2⟩ := dc_lst s hx
    cases boolsOf_eq h1
    cases e2.of_bools
    exact ⟨a, bs, rfl, SqL.of e1, q.1 _ (.bl _)⟩
  · cases hg
def rSumA (K : Fg) : List V → Hp → VK → Prop := fun xs H Q => rSum K xs H Q ∨ ∃ (a : Addr) (ns : List Int), xs = [V.ref a] ∧ SqT K H a (ns.map V.int) ∧ Q (.int ns.sum) H
theorem cr_sumA {X : Cx} (hc : X.calm = true) : CallR X (.builtin "sum") (rSumA X.K) := by
  intro pn s0 τ L xs us Q J rel hyp
  rcases hyp with hyp | ⟨a, ns, rfl, hT, q⟩
  · exact cr_sum hc pn s0 τ L xs us Q J rel hyp
  · obtain ⟨vals, rv, tp, _⟩ := J.tuple hT
    rw [Vals.ref1 rel]
    have hi := rv.ints
    have tp : s0.heap.IsTuple a vals.toArray := tp
    obtain ⟨ys, hy⟩ := hi.allInts.items
    have hn : numsOf vals.toArray.toList = ns := by rw [show vals.toArray.toList = vals from rfl, hi.numsOf]
    rw [hy] at tp hn
    rw [nums_intItems] at hn
    refine PySem.W.ktm_sumG (J.ok.hd hc) tp fun hp tk t hk => ?_
    rw [preSum_eq, List.take_of_length_le (by simp), hn]
    exact ⟨.int _, L, J.kept hk, ⟨_, rfl⟩, q⟩
def gSum : List PyData → Option Od
  | [.list ds] => (intsOf ds).map fun ns => .sh (.int ns.sum)
  | [.tuple ds] => (intsOf ds).map fun ns => .sh (.int ns.sum)
  | _ => none
theorem gSum_ok {K : Fg} : CalD K (rSumA K) gSum := by
  intro R H xs ds o Q s h hg q
  unfold gSum at hg
  split at hg
  · obtain ⟨bs, h1, rfl⟩ := Option.map_eq_some_iff.mp hg
    obtain ⟨v, rfl, hx⟩ := dcA1 h
    obtain ⟨a, vs, rfl, e1, e2⟩ := dc_lst s hx
    cases intsOf_eq h1
    cases e2.of_ints
    exact .inl ⟨a, bs, rfl, SqL.of e1, q.1 _ (.int _)⟩
  · obtain ⟨bs, h1, rfl⟩ := Option.map_eq_some_iff.mp hg
    obtain ⟨v, rfl, hx⟩ := dcA1 h
    obtain ⟨a, vs, rfl, e1, e2⟩ := dc_tup hx
    cases intsOf_eq h1
    cases e2.of_ints
    exact .inr ⟨a, bs, rfl, sqT_same s e1, q.1 _ (.int _)⟩
  · cases hg
def gAbs : List PyData → Option Od
  | [.int i] => some (.sh (.int (if i < 0 then -i else i)))
  | _ => none
theorem gAbs_ok {K : Fg} : CalD K (fun xs H Q => ∃ i, xs = [.int i] ∧ Q (.int (if i < 0 then -i else i)) H) gAbs := by
  intro R H xs ds o Q s h hg q
  unfold gAbs at hg
  split at hg
  · cases Option.some.inj hg
    obtain ⟨v, rfl, hx⟩ := dcA1 h
    rw [dc_int hx]
    exact ⟨_, rfl, q.1 _ (.int _)⟩
  · cases hg
def gInt : List PyData → Option Od
  | [.int i] => some (.sh (.int i))
  | [.bool k] => some (.sh (.int (if k then 1 else 0)))
  | _ => none
theorem gInt_ok {K : Fg} : CalD K (fun xs H Q => (∃ i, xs = [.int i] ∧ Q (.int i) H) ∨ ∃ k, xs = [.bl k] ∧ Q (.int (if k then 1 else 0)) H) gInt := by
  intro R H xs ds o Q s h hg q
  unfold gInt at hg
  split at hg
  · cases Option.some.inj hg
    obtain ⟨v, rfl, hx⟩ := dcA1 h
    rw [dc_int hx]
    exact .inl ⟨_, rfl, q.1 _ (.int _)⟩
  · cases Option.some.inj hg
    obtain ⟨v, rfl, hx⟩ := dcA1 h
    rw [dc_bool hx]
    exact .inr ⟨_, rfl, q.1 _ (.int _)⟩
  · cases hg
/-- repr -/
def gRepr : List PyData → Option Od
  | [d] => if plainD d = true ∧ d.showable = true ∧ d.depth ≤ 40 ∧ d.shown.length ≤ line then some (.sh (.str d.shown)) else none
  | _ => none
def rReprA (K : Fg) : List V → Hp → VK → Prop := fun xs H Q => ∃ x d, xs = [x] ∧ Dn K H x d ∧ plainD d = true ∧ d.showable = true ∧ d.depth ≤ 40 ∧ d.shown.length ≤ line ∧ Q (.str d.shown) H
theorem cr_reprA {X : Cx} (hg : X.A.guards = some []) (hu : X.A.units + 64 < cLine) (hm : ∃ o, X.base.get? sysModules = some o) : CallR X (.builtin "repr") (rReprA X.K) := by
  intro pins s σ H xs us Q I r h
  obtain ⟨x, d, rfl, hd, hp, hs, hdp, hz, q⟩ := h
  obtain ⟨u, rfl, rx⟩ := vals1 r
  obtain ⟨o, ho⟩ := hm
  have hsys : H sysModules = none := (I.bs _ _ ho).2
  have hz' : d.shown.length ≤ sizeLine := by rw [line_eq]; exact hz
  cases d with
  | none => cases hd; cases rx; exact PySem.P.repr_of_none ⟨.str _, H, I.tok _, ⟨_, rfl⟩, q⟩
  | bool b => cases hd; cases rx; exact PySem.P.repr_of_bool ⟨.str _, H, I.tok _, ⟨_, rfl⟩, q⟩
  | int i =>
    cases hd
    obtain ⟨t, rfl⟩ := rx
    exact PySem.P.repr_of_int (by simpa [PyData.showable] using hs) ⟨.str _, H, I.tok _, ⟨_, rfl⟩, q⟩
  | str y =>
    cases hd
    obtain ⟨t, rfl⟩ := rx
    exact PySem.P.repr_of_str ⟨.str _, H, I.tok _, ⟨_, rfl⟩, q⟩ hz'
  | list ds =>
    obtain ⟨as, rd, hn⟩ := Dn.reads I _ x u hp hd rx
    have ru : ∃ a, u = .ref a := by cases rd; exact ⟨_, rfl⟩
    obtain ⟨a, rfl⟩ := ru
    exact repr_of_reads' rd hs (fun _ => hn hsys) hg (by omega) (fun _ _ e => e) (fun h' t tk hk => ⟨.str _, H, I.kept hk, ⟨_, rfl⟩, q⟩) hz'
  | tuple ds =>
    obtain ⟨as, rd, hn⟩ := Dn.reads I _ x u hp hd rx
    have ru : ∃ a, u = .ref a := by cases rd; exact ⟨_, rfl⟩
    obtain ⟨a, rfl⟩ := ru
    exact repr_of_reads' rd hs (fun _ => hn hsys) hg (by omega) (fun _ _ e => e) (fun h' t tk hk => ⟨.str _, H, I.kept hk, ⟨_, rfl⟩, q⟩) hz'
  | dict ds =>
    obtain ⟨as, rd, hn⟩ := Dn.reads I _ x u hp hd rx
    have ru : ∃ a, u = .ref a := by cases rd; exact ⟨_, rfl⟩
    obtain ⟨a, rfl⟩ := ru
    exact repr_of_reads' rd hs (fun _ => hn hsys) hg (by omega) (fun _ _ e => e) (fun h' t tk hk => ⟨.str _, H, I.kept hk, ⟨_, rfl⟩, q⟩) hz'
theorem gRepr_ok {K : Fg} : CalD K (rReprA K) gRepr := by
  intro R H xs ds o Q s h hg q
  unfold gRepr at hg
  split at hg
  · obtain ⟨⟨h1, h2, h3, h4⟩, rfl⟩ := ite_some hg
    obtain ⟨v, rfl, hx⟩ := dcA1 h
    exact ⟨v, _, rfl, hx.dn s, h1, h2, h3, h4, q.1 _ (.str _)⟩
  · cases hg
/-! ### isinstance of a built-in class -/
def tyD : PyData → String
  | .none => "NoneType"
  | .bool _ => "bool"
  | .int _ => "int"
  | .str _ => "str"
  | .list _ => "list"
  | .tuple _ => "tuple"
  | .dict _ => "dict"
theorem dn_ty {K : Fg} {H : Hp} {v : V} {d : PyData} (hp : plainD d = true) (h : Dn K H v d) : TyX K H v (.type (tyD d)) := by
  cases h with
  | non => exact .base .non
  | bl b => exact .base (.bl b)
  | int i => exact .base (.int i)
  | str x => exact .base (.str x)
  | lst h1 _ => exact .base (.lst h1)
  | tup h1 _ =>
    rcases h1 with (h1 | ⟨o, h1⟩) | ⟨o, its, n, h1, h2, _⟩
    · exact .base (.tup h1)
    · exact .fTuple h1
    · exact .kTuple h1 h2
  | dct h1 _ => exact .base (.dK h1)
  | scr ns h1 => simp [plainD, scrD, plainK] at hp
def fIsi (T : String) (fa : Ev → Rs Rv) (e : Ev) : Rs Rv := (stab (fa e)).bind fun ra e1 => match (res e1 ra).bind fun d => if plainD d = true then kitB (tyD d) T else none with
  | some b => .ok (.sh (.bool b)) e1
  | none => .bad
section
variable {X : Cx} {B : Bs} {W : Wx} {a : Expr} {fa : Ev → Rs Rv} {pos p p2 : Pos}
theorem dx_isi {x : Str} {T : String} (hg : Gl X "isinstance") (hm : X.mg "isinstance" = none) (hgT : Gl X x) (hmT : X.mg x = none) (hT : bootBuiltins x = some (.type T)) (hnT : x ≠ "__name__") (hdT : (x == ("__debug__" : Str)) = false) (hs : noStar [a] = true) (ha : DX X B W a fa) :
    DX X B W (.Call (.Name "isinstance" p) [a, .Name x p2] [] pos) (fIsi T fa) := by
  have hs2 : noStar [a, .Name x p2] = true := by cases a <;> first | rfl | (simp [noStar] at hs)
  refine pe_imp (pe_callB call_isi hg hm boot_isinstance (pa_cons (dx_stab ha) (pa_cons (pe_bltn (v := .ty T) hgT hmT hT rfl hnT hdT) pa_nil (by rfl)) (star_cons hs2)) (by decide) (by decide) (star_cons hs2) (noStar_flat (noStar_tail hs2))) fun σ H Q h => ?_
  obtain ⟨R, e, rl, h⟩ := h
  refine te_mono (tX_bindS rl h) fun v H1 ⟨R1, e1, ra, qa, s1, t1, r1, v1, h⟩ => ?_
  cases qd : res e1 ra with
  | none => rw [qd] at h; exact h.elim
  | some d =>
    rw [qd] at h
    simp only [Option.bind_some] at h
    by_cases hp : plainD d = true
    · rw [if_pos hp] at h
      cases qk : kitB (tyD d) T with
      | none => rw [qk] at h; exact h.elim
      | some b =>
        rw [qk] at h
        exact ⟨v, .ty T, .type (tyD d), .type T, b, rfl, .ty T, dn_ty hp ((v1.dc r1 qd).dn r1.sub), kit_ty qk, h _ R1 H1 (Same.refl _) r1 .refl (.refl _) (.bl _)⟩
    · rw [if_neg hp] at h; exact h.elim
end
end PV
namespace PV
open PySem PySem.Spec PyProof.Rows L2
section
variable {K : Fg} {B : Bs} {R H : Hp} {σ : L2.St} {e : Ev}
/-- the list of a name is changed -/
theorem Rel.put {i : Nat} {a : Addr} {vs : List V} {ds : List PyData} (r : Rel K B R σ H e) (hi : ∃ ds, e.at i = .ow ds) (hn : nm σ i = some (.ref a)) (hd : DnA K R vs ds) : Rel K B R σ (upd H a (.lst vs)) (e.set i (.ow ds)) := by
  obtain ⟨ds0, hi⟩ := hi
  have hu : e.at i ≠ .un := fun z => by rw [hi] at z; cases z
  have ho : (e.at i).own = true := by rw [hi]; rfl
  have hR : R a = none := (r.own_at ⟨i, ho, hn⟩).1
  have ow : ∀ j, (Ev.at (e.set i (.ow ds)) j).own = true → (e.at j).own = true := fun j h => by
    rw [Ev.at_set hu] at h
    by_cases hj : j = i
    · subst hj; exact ho
    · rw [if_neg hj] at h; exact h
  refine ⟨fun b o q => ?_, r.r0, fun j => ?_, fun j k b h1 h2 => r.inj j k b (ow j h1) (ow k h2), fun b o q n => ?_, fun b ⟨j, h1, h2⟩ => r.new b ⟨j, ow j h1, h2⟩, fun b hb => ?_, r.rn, by rw [List.length_set]; exact r.len⟩
  · have ne : b ≠ a := fun z => by rw [z, hR] at q; cases q
    rw [upd_ne ne]; exact r.sub b o q
  · rw [Ev.at_set hu]
    by_cases hj : j = i
    · rw [if_pos hj]; subst hj; exact ⟨a, vs, hn, hR, upd_same, hd⟩
    · rw [if_neg hj]
      have s := r.sl j
      cases q : e.at j with
      | un => trivial
      | sh d => rw [q] at s; exact s
      | ow ds1 =>
        rw [q] at s; obtain ⟨b, ws, h1, h2, h3, h4⟩ := s
        have ne : b ≠ a := fun z => hj (r.inj j i a (by rw [q]; rfl) ho (by rw [h1, z]) hn)
        exact ⟨b, ws, h1, h2, by rw [upd_ne ne]; exact h3, h4⟩
      | od es1 =>
        rw [q] at s; obtain ⟨b, ws, h1, h2, h3, h4⟩ := s
        have ne : b ≠ a := fun z => hj (r.inj j i a (by rw [q]; rfl) ho (by rw [h1, z]) hn)
        exact ⟨b, ws, h1, h2, by rw [upd_ne ne]; exact h3, h4⟩
  · have ne : b ≠ a := fun z => by
      rcases r.new a ⟨i, ho, hn⟩ with z2 | z2
      · rw [z, z2] at q; cases q
      · exact n (by rw [z]; exact z2)
    rw [upd_ne ne]; exact r.h0 b o q n
  · obtain ⟨h1, ds2, h2⟩ := r.pen b hb
    refine ⟨h1, ?_⟩
    rw [Ev.at_set hu]
    by_cases hj : 0 = i
    · rw [if_pos hj]; exact ⟨_, rfl⟩
    · rw [if_neg hj]; exact ⟨_, h2⟩
theorem tr_put {i : Nat} {ds ds' : List PyData} (h : e.at i = .ow ds) : Tr e (e.set i (.ow ds')) := fun j => by
  have hu : e.at i ≠ .un := fun z => by rw [h] at z; cases z
  rw [Ev.at_set hu]
  by_cases hj : j = i
  · subst hj; rw [if_pos rfl, h]; exact .inl ⟨_, rfl⟩
  · rw [if_neg hj]; exact Tr.refl e j
theorem frm_put {i : Nat} {a : Addr} {o : HO} (hi : (e.at i).own = true) (hn : nm σ i = some (.ref a)) : Frm σ e H (upd H a o) := fun b u q n => by
  have ne : b ≠ a := fun z => n ⟨i, hi, by rw [z]; exact hn⟩
  rw [upd_ne ne]; exact q
/-- the dict of a name is changed -/
theorem Rel.putD {i : Nat} {a : Addr} {kvs : List (Key × V)} {es : List (PyData × PyData)} (r : Rel K B R σ H e) (hi : ∃ es, e.at i = .od es) (hn : nm σ i = some (.ref a)) (hd : DnK K R kvs es) : Rel K B R σ (upd H a (.dK kvs)) (e.set i (.od es)) := by
  obtain ⟨ds0, hi⟩ := hi
  have hu : e.at i ≠ .un := fun z => by rw [hi] at z; cases z
  have ho : (e.at i).own = true := by rw [hi]; rfl
  have hR : R a = none := (r.own_at ⟨i, ho, hn⟩).1
  have ow : ∀ j, (Ev.at (e.set i (.od es)) j).own = true → (e.at j).own = true := fun j h => by
    rw [Ev.at_set hu] at h
    by_cases hj : j = i
    · subst hj; exact ho
    · rw [if_neg hj] at h; exact h
  refine ⟨fun b o q => ?_, r.r0, fun j => ?_, fun j k b h1 h2 => r.inj j k b (ow j h1) (ow k h2), fun b o q n => ?_, fun b ⟨j, h1, h2⟩ => r.new b ⟨j, ow j h1, h2⟩, fun b hb => ?_, r.rn, by rw [List.length_set]; exact r.len⟩
  · have ne : b ≠ a := fun z => by rw [z, hR] at q; cases q
    rw [upd_ne ne]; exact r.sub b o q
  · rw [Ev.at_set hu]
    by_cases hj : j = i
    · rw [if_pos hj]; subst hj; exact ⟨a, kvs, hn, hR, upd_same, hd⟩
    · rw [if_neg hj]
      have s := r.sl j
      cases q : e.at j with
      | un => trivial
      | sh d => rw [q] at s; exact s
      | ow ds1 =>
        rw [q] at s; obtain ⟨b, ws, h1, h2, h3, h4⟩ := s
        have ne : b ≠ a := fun z => hj (r.inj j i a (by rw [q]; rfl) ho (by rw [h1, z]) hn)
        exact ⟨b, ws, h1, h2, by rw [upd_ne ne]; exact h3, h4⟩
      | od es1 =>
        rw [q] at s; obtain ⟨b, ws, h1, h2, h3, h4⟩ := s
        have ne : b ≠ a := fun z => hj (r.inj j i a (by rw [q]; rfl) ho (by rw [h1, z]) hn)
        exact ⟨b, ws, h1, h2, by rw [upd_ne ne]; exact h3, h4⟩
  · have ne : b ≠ a := fun z => by
      rcases r.new a ⟨i, ho, hn⟩ with z2 | z2
      · rw [z, z2] at q; cases q
      · exact n (by rw [z]; exact z2)
    rw [upd_ne ne]; exact r.h0 b o q n
  · obtain ⟨h1, ds2, h2⟩ := r.pen b hb
    refine ⟨h1, ?_⟩
    rw [Ev.at_set hu]
    by_cases hj : 0 = i
    · rw [← hj, h2] at hi; cases hi
    · rw [if_neg hj]; exact ⟨_, h2⟩
theorem tr_putD {i : Nat} {ds ds' : List (PyData × PyData)} (h : e.at i = .od ds) : Tr e (e.set i (.od ds')) := fun j => by
  have hu : e.at i ≠ .un := fun z => by rw [h] at z; cases z
  rw [Ev.at_set hu]
  by_cases hj : j = i
  · subst hj; rw [if_pos rfl, h]; exact .inl ⟨_, rfl⟩
  · rw [if_neg hj]; exact Tr.refl e j
end

/-! ### x.append(e), x.pop(), x.pop(k), x.extend(e) of a name's own list -/
section
variable {X : Cx} {B : Bs} {W : Wx} {a b c : Expr} {fa fb fc : Ev → Rs Rv} {pos p apos : Pos}
/-- the arguments of a method, by values: what is wanted of each -/
def fMeth (i : Nat) (g : List PyData → List Rv → Option (PyData × List PyData)) (fl : Ev → Rs (List Rv)) (e : Ev) : Rs Rv := (fl e).bind fun rvs e1 => match e1.at i with
  | .ow ds => (match g ds rvs with
    | some (d, ds') => .ok (.sh d) (e1.set i (.ow ds'))
    | none => .bad)
  | _ => .bad
def MetD (K : Fg) (r : V → List V → Hp → VK → Prop) (g : Ev → List PyData → List Rv → Option (PyData × List PyData)) : Prop :=
  ∀ (B : Bs) (R H : Hp) (σ : L2.St) (e : Ev) (l : Addr) (ws : List V) (vs : List V) (rvs : List Rv) (ds ds' : List PyData) (d : PyData) (Q : VK), Rel K B R σ H e → H l = some (.lst vs) → DnA K R vs ds → VRs K B R H σ e ws rvs → g e ds rvs = some (d, ds') →
    (∀ v vs', Dn K R v d → DnA K R vs' ds' → Q v (upd H l (.lst vs'))) → r (.ref l) ws H Q
def fMethE (i : Nat) (g : Ev → List PyData → List Rv → Option (PyData × List PyData)) (fl : Ev → Rs (List Rv)) (e : Ev) : Rs Rv := match e.at i with
  | .ow _ => (fl e).bind fun rvs e1 => (match e1.at i with
    | .ow ds => (match g e1 ds rvs with
      | some (d, ds') => .ok (.sh d) (e1.set i (.ow ds'))
      | none => .bad)
    | _ => .bad)
  | _ => .bad
theorem meth_of {i : Nat} {r : V → List V → Hp → VK → Prop} {g : Ev → List PyData → List Rv → Option (PyData × List PyData)} {fl : Ev → Rs (List Rv)} {σ : L2.St} {H : Hp} {Q : VK} (hg : MetD X.K r g) (h : tX X.K B W (fMethE i g fl) σ H Q) :
    tBM X.K "list" r (tVar i) (tL X.K B W fl) σ H Q := by
  obtain ⟨R, e, rl, h⟩ := h
  unfold fMethE at h
  have s := rl.sl i
  cases qi : e.at i with
  | un => rw [qi] at h; exact h.elim
  | sh d => rw [qi] at h; exact h.elim
  | od d => rw [qi] at h; exact h.elim
  | ow ds =>
    rw [qi] at h s
    obtain ⟨l, vs, h1, h2, h3, h4⟩ := s
    refine ⟨.ref l, nm_get h1, .inl ⟨rfl, vs, SqL.of h3⟩, ?_⟩
    have h : After X.K B W σ R H e ((fl e).bind fun rvs e1 => (match e1.at i with
      | .ow ds => (match g e1 ds rvs with
        | some (d, ds') => .ok (.sh d) (e1.set i (.ow ds'))
        | none => .bad)
      | _ => .bad)) Q := h
    refine ⟨R, e, rl, ?_⟩
    cases qf : fl e with
    | ex c => rw [qf] at h; exact h
    | bad => rw [qf] at h; exact h
    | ok rvs e1 =>
      rw [qf] at h
      intro ws R1 H1 s1 r1 f1 t1 v1
      have h := after_seq s1 f1 t1 h
      simp only [Rs.bind] at h
      cases q1 : e1.at i with
      | un => rw [q1] at h; exact h.elim
      | sh d => rw [q1] at h; exact h.elim
      | od d => rw [q1] at h; exact h.elim
      | ow ds1 =>
        rw [q1] at h
        simp only at h
        cases qg : g e1 ds1 rvs with
        | none => rw [qg] at h; exact h.elim
        | some p =>
          obtain ⟨d, ds'⟩ := p
          rw [qg] at h
          have s' := r1.sl i
          rw [q1] at s'
          obtain ⟨l', vs', e1', e2', e3', e4'⟩ := s'
          rw [h1] at e1'; cases e1'
          refine hg B R1 H1 σ e1 l ws vs' rvs ds1 ds' d Q r1 e3' e4' v1 qg fun v vs2 hv hvs => ?_
          exact h v R1 _ (Same.refl _) (r1.put ⟨_, q1⟩ h1 hvs) (frm_put (by rw [q1]; rfl) h1) (tr_put q1) hv
def gApp (_ : Ev) (ds : List PyData) : List Rv → Option (PyData × List PyData)
  | [.sh d] => if ds.length < line then some (.none, ds ++ [d]) else none
  | _ => none
theorem gApp_ok {K : Fg} : MetD K rAppend gApp := by
  intro B R H σ e l ws vs rvs ds ds' d Q rl hl hd hv hg q
  unfold gApp at hg
  split at hg
  · rename_i d0
    obtain ⟨hz, e1⟩ := ite_some hg
    cases e1
    cases hv with
    | cons h1 _ h2 =>
      cases h2
      exact ⟨l, vs, _, rfl, rfl, hl, by rw [hd.length, line_eq]; exact hz, q _ _ .non (hd.append (.cons h1 .nil))⟩
  · cases hg
def gPop (_ : Ev) (ds : List PyData) : List Rv → Option (PyData × List PyData)
  | [] => ds.getLast?.map fun d => (d, ds.dropLast)
  | _ => none
theorem DnA.dropLast {K : Fg} {H : Hp} {vs : List V} {ds : List PyData} (h : DnA K H vs ds) : DnA K H vs.dropLast ds.dropLast := by
  rw [List.dropLast_eq_take, List.dropLast_eq_take, h.length]; exact h.take _
theorem gPop_ok {K : Fg} : MetD K rPop gPop := by
  intro B R H σ e l ws vs rvs ds ds' d Q rl hl hd hv hg q
  unfold gPop at hg
  split at hg
  · obtain ⟨d0, h1, e1⟩ := Option.map_eq_some_iff.mp hg
    cases e1
    cases hv
    rw [List.getLast?_eq_getElem?] at h1
    obtain ⟨v, h2, h3⟩ := hd.get h1
    exact ⟨l, vs, v, rfl, rfl, hl, by rw [hd.length]; exact h2, q _ _ h3 hd.dropLast⟩
  · cases hg
def gPopAt (_ : Ev) (ds : List PyData) : List Rv → Option (PyData × List PyData)
  | [.sh (.int 0)] => match ds with
    | d :: r => some (d, r)
    | [] => none
  | _ => none
theorem gPopAt_ok {K : Fg} : MetD K rPopAt gPopAt := by
  intro B R H σ e l ws vs rvs ds ds' d Q rl hl hd hv hg q
  unfold gPopAt at hg
  split at hg
  · split at hg
    · rename_i d0 r0
      cases Option.some.inj hg
      cases hv with
      | cons h1 _ h2 =>
        cases h2
        cases h1
        cases hd with
        | @cons v vs _ _ a b =>
          exact ⟨l, v :: vs, 0, 0, v, rfl, rfl, hl, by decide, by decide, by simp [seqIndex?], rfl, q _ _ a b⟩
    · cases hg
  · cases hg
def gExt (e : Ev) (ds : List PyData) : List Rv → Option (PyData × List PyData)
  | [rv] => match res e rv with
    | some (.list xs) => if ds.length + xs.length ≤ line then some (.none, ds ++ xs) else none
    | _ => none
  | _ => none
theorem gExt_ok {K : Fg} : MetD K rExtend gExt := by
  intro B R H σ e l ws vs rvs ds ds' d Q rl hl hd hv hg q
  unfold gExt at hg
  split at hg
  · split at hg
    · rename_i xs qx
      obtain ⟨hz, e1⟩ := ite_some hg
      cases e1
      cases hv with
      | cons h1 _ h2 =>
        cases h2
        obtain ⟨b, ys, rfl, h3, h4⟩ := dc_lst rl.sub (h1.dc rl qx)
        exact ⟨l, b, vs, ys, rfl, rfl, hl, h3, by rw [hd.length, h4.length, line_eq]; exact hz, q _ _ .non (hd.append h4)⟩
    · cases hg
  · cases hg
/-- a method that changes nothing, of a list that a name bears, be it its own or not -/
def lsAt : Sl → Option (List PyData)
  | .ow ds => some ds
  | .sh (.list ds) => some ds
  | _ => none
def fMthR (i : Nat) (g : List PyData → List PyData → Option PyData) (fl : Ev → Rs (List Rv)) (e : Ev) : Rs Rv := match lsAt (e.at i) with
  | some _ => (fl e).bind fun rvs e1 => (match lsAt (e1.at i), resL e1 rvs with
    | some ds, some xs => (match g ds xs with
      | some d => .ok (.sh d) e1
      | none => .bad)
    | _, _ => .bad)
  | none => .bad
def MetR (K : Fg) (r : V → List V → Hp → VK → Prop) (g : List PyData → List PyData → Option PyData) : Prop :=
  ∀ (R H : Hp) (l : Addr) (ws vs : List V) (ds xs : List PyData) (d : PyData) (Q : VK), Same R H → H l = some (.lst vs) → DnA K R vs ds → DcA K R H ws xs → g ds xs = some d → (∀ v, Dn K R v d → Q v H) → r (.ref l) ws H Q
theorem lsAt_ref {i : Nat} {ds : List PyData} {R H : Hp} {σ : L2.St} {e : Ev} (rl : Rel X.K B R σ H e) (h : lsAt (e.at i) = some ds) : ∃ l vs, nm σ i = some (.ref l) ∧ H l = some (.lst vs) ∧ DnA X.K R vs ds := by
  have s := rl.sl i
  cases qi : e.at i with
  | un => rw [qi] at h; cases h
  | od d => rw [qi] at h; cases h
  | ow ds1 =>
    rw [qi] at h s
    cases h
    obtain ⟨l, vs, h1, _, h3, h4⟩ := s
    exact ⟨l, vs, h1, h3, h4⟩
  | sh d =>
    rw [qi] at h s
    cases d with
    | list ds1 =>
      cases h
      obtain ⟨v, h1, h2⟩ := s
      obtain ⟨l, vs, rfl, h3, h4⟩ := dc_lst rl.sub (.st h2)
      exact ⟨l, vs, h1, h3, h4⟩
    | _ => cases h
theorem methR_of {i : Nat} {r : V → List V → Hp → VK → Prop} {g : List PyData → List PyData → Option PyData} {fl : Ev → Rs (List Rv)} {σ : L2.St} {H : Hp} {Q : VK} (hg : MetR X.K r g) (h : tX X.K B W (fMthR i g fl) σ H Q) :
    tBM X.K "list" r (tVar i) (tL X.K B W fl) σ H Q := by
  obtain ⟨R, e, rl, h⟩ := h
  unfold fMthR at h
  cases q0 : lsAt (e.at i) with
  | none => rw [q0] at h; exact h.elim
  | some ds =>
    rw [q0] at h
    obtain ⟨l, vs, h1, h3, h4⟩ := lsAt_ref rl q0
    refine ⟨.ref l, nm_get h1, .inl ⟨rfl, vs, SqL.of h3⟩, ?_⟩
    have h : After X.K B W σ R H e ((fl e).bind fun rvs e1 => (match lsAt (e1.at i), resL e1 rvs with
      | some ds, some xs => (match g ds xs with
        | some d => .ok (.sh d) e1
        | none => .bad)
      | _, _ => .bad)) Q := h
    refine ⟨R, e, rl, ?_⟩
    cases qf : fl e with
    | ex c => rw [qf] at h; exact h
    | bad => rw [qf] at h; exact h
    | ok rvs e1 =>
      rw [qf] at h
      intro ws R1 H1 s1 r1 f1 t1 v1
      have h := after_seq s1 f1 t1 h
      simp only [Rs.bind] at h
      cases q1 : lsAt (e1.at i) with
      | none => rw [q1] at h; exact h.elim
      | some ds1 =>
        cases q2 : resL e1 rvs with
        | none => rw [q1, q2] at h; exact h.elim
        | some xs =>
          rw [q1, q2] at h
          simp only at h
          cases qg : g ds1 xs with
          | none => rw [qg] at h; exact h.elim
          | some d =>
            rw [qg] at h
            obtain ⟨l', vs', y1, y3, y4⟩ := lsAt_ref r1 q1
            rw [h1] at y1; cases y1
            exact hg R1 H1 l ws vs' ds1 xs d Q r1.sub y3 y4 (resL_dc r1 v1 q2) qg fun v hv => h v R1 _ (Same.refl _) r1 .refl (.refl _) hv
def gCnt (ds : List PyData) : List PyData → Option PyData
  | [.int k] => (intsOf ds).map fun ns => .int (ns.count k : Nat)
  | _ => none
theorem gCnt_ok {K : Fg} : MetR K (rCntI K) gCnt := by
  intro R H l ws vs ds xs d Q s hl hd hv hg q
  unfold gCnt at hg
  split at hg
  · rename_i k
    obtain ⟨ns, h1, e1⟩ := Option.map_eq_some_iff.mp hg
    subst e1
    obtain ⟨v, rfl, hx⟩ := dcA1 hv
    rw [dc_int hx]
    cases intsOf_eq h1
    cases hd.of_ints
    exact ⟨l, ns, k, rfl, rfl, SqL.of hl, q _ (.int _)⟩
  · cases hg
theorem noStar_few : ∀ {es : List Expr} {env : Env} {pos : Pos}, noStar es = true → (backTo pos (starEach es env)).all (fun x => !x.1) = true
  | [], _, _, _ => rfl
  | e :: es, env, pos, h => by
    rw [star_cons h]
    show (true && (backTo pos (starEach es env)).all _) = true
    rw [noStar_few (noStar_tail h)]; rfl
theorem few_ok {es : List Expr} {env : Env} {pos : Pos} (h : noStar es = true) (hl : es.length < 20) : ((backTo pos (starEach es env)).all (fun x => !x.1) && (backToKw pos (keywordEach [] env)).all (fun x => x.1.isSome)
      && decide (es.length + ([] : List Keyword).length + (if ([] : List Keyword).isEmpty then 0 else 1) < 30)) = true := by
  rw [noStar_few h, show (backToKw pos (keywordEach [] env)).all (fun x => x.1.isSome) = true by rfl, decide_eq_true (by simp; omega)]; rfl
theorem mtM_R {id : String} {r : V → List V → Hp → VK → Prop} (h : MtM X id r) : MtR X id r := h
theorem dx_meth {i : Nat} {x name : Str} {id : String} {e0 : Expr} {es : List Expr} {r : V → List V → Hp → VK → Prop} {g : Ev → List PyData → List Rv → Option (PyData × List PyData)} {fl : Ev → Rs (List Rv)} (slot : Slot "list" name id) (hty : typeOf (.builtin id) = pure (.type "method_descriptor"))
    (hm : MtR X id r) (hg : MetD X.K r g) (hN : X.N[i]? = some x) (hv : Vis X.env.scope x) (hd : (x == ("__debug__" : Str)) = false) (hcd : (x == ("__classdict__" : Str)) = false) (hs : noStar (e0 :: es) = true) (hl : (e0 :: es).length < 20) (hline : (apos.endLine == pos.line) = true) (ha : DL X B W (e0 :: es) fl) :
    DX X B W (.Call (.Attribute (.Name x p) name apos) (e0 :: es) [] pos) (fMethE i g fl) :=
  pe_imp (pe_bm PySem.F.plainAttrs_list slot hty hm (pe_var hN hv hd hcd) ha (by rfl) (few_ok hs hl) hline (star_cons hs) (noStar_flat (noStar_tail hs))) fun _ _ _ h => meth_of hg h
theorem dx_methR {i : Nat} {x name : Str} {id : String} {e0 : Expr} {es : List Expr} {r : V → List V → Hp → VK → Prop} {g : List PyData → List PyData → Option PyData} {fl : Ev → Rs (List Rv)} (slot : Slot "list" name id) (hty : typeOf (.builtin id) = pure (.type "method_descriptor"))
    (hm : MtR X id r) (hg : MetR X.K r g) (hN : X.N[i]? = some x) (hv : Vis X.env.scope x) (hd : (x == ("__debug__" : Str)) = false) (hcd : (x == ("__classdict__" : Str)) = false) (hs : noStar (e0 :: es) = true) (hl : (e0 :: es).length < 20) (hline : (apos.endLine == pos.line) = true) (ha : DL X B W (e0 :: es) fl) :
    DX X B W (.Call (.Attribute (.Name x p) name apos) (e0 :: es) [] pos) (fMthR i g fl) :=
  pe_imp (pe_bm PySem.F.plainAttrs_list slot hty hm (pe_var hN hv hd hcd) ha (by rfl) (few_ok hs hl) hline (star_cons hs) (noStar_flat (noStar_tail hs))) fun _ _ _ h => methR_of hg h
theorem dx_meth0 {i : Nat} {x name : Str} {id : String} {r : V → List V → Hp → VK → Prop} {g : Ev → List PyData → List Rv → Option (PyData × List PyData)} (slot : Slot "list" name id) (hty : typeOf (.builtin id) = pure (.type "method_descriptor"))
    (hm : MtR X id r) (hg : MetD X.K r g) (hN : X.N[i]? = some x) (hv : Vis X.env.scope x) (hd : (x == ("__debug__" : Str)) = false) (hcd : (x == ("__classdict__" : Str)) = false) (hline : (apos.endLine == pos.line) = true) :
    DX X B W (.Call (.Attribute (.Name x p) name apos) [] [] pos) (fMethE i g fNil) :=
  pe_imp (pe_bm0 PySem.F.plainAttrs_list slot hty hm (pe_var hN hv hd hcd) (by rfl) hline) fun σ H Q h => by
    obtain ⟨v, h1, h2, R, e, rl, h3⟩ := meth_of hg h
    exact ⟨v, h1, h2, h3 [] R H (Same.refl _) rl .refl (.refl _) .nil⟩
end
end PV
namespace PV
open PySem PySem.Spec PyProof.Rows L2

/-- what a call tells: data (or a new list), and what the list that it may change is then; the name of what it raises -/
inductive FR where
  | ret (d : PyData) (io : List PyData)
  | fresh (ds : List PyData) (io : List PyData)
  | ex (c : Str)
  | bad
/-- a def by what it tells; io: it may change its first argument, a list -/
structure Fn where
  io : Bool
  den : List PyData → FR

abbrev Mg := Str → Option Value
structure Past (K : Fg) (R H R' H' : Hp) (io : Option Addr) (xs : List PyData) : Prop where
  rr : Same R R'
  sub : Same R' H'
  fr : ∀ b o, H b = some o → io ≠ some b → H' b = some o
  rn : ∀ b o, R' b = some o → R b = some o ∨ H b = none
  at_ : ∀ a, io = some a → ∃ ws, H' a = some (.lst ws) ∧ DnA K R' ws xs
def FRq (K : Fg) (mg : Mg) (R H : Hp) (io : Option Addr) (r : FR) (Q : VK) (E : XK) : Prop := match r with
  | .ret d xs => ∀ v R' H', Past K R H R' H' io xs → Dn K R' v d → Q v H'
  | .fresh ds xs => ∀ p ws R' H', Past K R H R' H' io xs → H p = none → R' p = none → H' p = some (.lst ws) → DnA K R' ws ds → Q (.ref p) H'
  | .ex c => ∀ H', (∀ b o, H b = some o → io ≠ some b → H' b = some o) → ∀ C o, mg c = some (.ref C) → E (.ref C) o H'
  | .bad => False
/-- the arguments of a call -/
def ArgsOk (K : Fg) (R H : Hp) (io : Bool) (vs : List V) (ds : List PyData) (a : Option Addr) : Prop := match io with
  | false => a = none ∧ DnA K R vs ds
  | true => ∃ p ws xs vs' ds', a = some p ∧ vs = .ref p :: vs' ∧ ds = .list xs :: ds' ∧ R p = none ∧ H p = some (.lst ws) ∧ DnA K R ws xs ∧ DnA K R vs' ds'
def spFn (K : Fg) (mg : Mg) (n : Nat) (F : Fn) : Sp := fun vs H Q E => ∃ R ds io, Same R H ∧ ArgsOk K R H F.io vs ds io ∧ vs.length = n ∧ FRq K mg R H io (F.den ds) Q E
/-- a def keeps its promise wherever no repr is under way -/
structure FnG (P : Program) (w : World) (K : Fg) (mg : Mg) (base : Heap) (k : Nat) (f : Addr) (fd : FuncData) (ps : List Str) (sp : Sp) : Prop where
  len : ∀ vs H Q E, sp vs H Q E → vs.length = ps.length
  run : ∀ (A : Around) (outer : List Env) (s : Shared) (H : Hp) (args : Args) (us : List Value) (vs : List V) (Q : VK) (E : XK), Room k A → A.guards = some [] → Env0 P w K mg base A outer s H → BindsTo s fd args (ps.zip us) → Vals vs us → sp vs H Q E →
    codeAny (model P w) A (.call (.ref f) args) (CR (L2.CX P w) outer P w H s Q E) s
theorem FnG.mono {P : Program} {w : World} {K : Fg} {mg : Mg} {base : Heap} {j k : Nat} {f : Addr} {fd : FuncData} {ps : List Str} {sp : Sp} (F : FnG P w K mg base j f fd ps sp) (h : j ≤ k) : FnG P w K mg base k f fd ps sp :=
  ⟨F.len, fun A outer s H args us vs Q E hr => F.run A outer s H args us vs Q E (hr.mono h)⟩
theorem FnG.imp {P : Program} {w : World} {K : Fg} {mg : Mg} {base : Heap} {k : Nat} {f : Addr} {fd : FuncData} {ps : List Str} {sp sp' : Sp} (F : FnG P w K mg base k f fd ps sp) (h : ∀ vs H Q E, sp' vs H Q E → sp vs H Q E) : FnG P w K mg base k f fd ps sp' :=
  ⟨fun vs H Q E q => F.len vs H Q E (h _ _ _ _ q), fun A outer s H args us vs Q E hr hg he hb hv hs => F.run A outer s H args us vs Q E hr hg he hb hv (h _ _ _ _ hs)⟩
/-- what the body wants of an exception -/
def WW (mg : Mg) (W : Wx) : WX := fun v _ _ H => ∃ c C, v = .ref C ∧ mg c = some (.ref C) ∧ W c H
def WE' (mg : Mg) (W : Wx) : XK := fun v _ H => ∃ c C, v = .ref C ∧ mg c = some (.ref C) ∧ W c H
section
variable {X : Cx} {B : Bs} {W : Wx} {k : Nat} {f : Addr} {fd : FuncData} {ps : List Str} {sp : Sp} {x : Str} {p pos : Pos} {e : Expr} {es : List Expr} {t : TA}
theorem run_G {pins : List (Addr × Obj)} {σ : L2.St} {H : Hp} {s : Shared} {Q : VK} {us : List Value} {vs : List V} (F : FnG X.prog X.w X.K X.mg X.base k f fd ps sp) (hr : Room k X.A) (hg : X.A.guards = some []) (hb : Binds X.K fd ps []) (tk : Takes X (WW X.mg W))
    (I : Inv X pins σ H s) (r : Vals vs us) (h : sp vs H Q (WE' X.mg W)) : wpAny (model X.prog X.w) X.A (call (.ref f) us) (EP X pins σ Q) X.xe s := by
  have hl : us.length = ps.length := by rw [← r.length]; exact F.len _ _ _ _ h
  have b := hb s us I.kIn (by rw [List.append_nil]; exact hl)
  rw [List.append_nil] at b
  refine wpAny_call (codeAny_mono (F.run X.A X.stack s H ⟨us, []⟩ us vs Q _ hr hg I.env0 b r h) fun r s' hq => ?_)
  cases r with
  | error e => exact tk e s' (XE.of_call I (fun _ _ _ h => h) hq)
  | ok fl =>
    cases fl with
    | ret u => exact I.after hq
    | next => exact False.elim hq
    | brk => exact False.elim hq
    | cont => exact False.elim hq
def tCallG (sp : Sp) (E : XK) (t : TA) : TE := fun σ H Q => t σ H fun vs H1 => sp vs H1 Q E
theorem pe_callG (F : FnG X.prog X.w X.K X.mg X.base k f fd ps sp) (hr : Room k X.A) (hgu : X.A.guards = some []) (hg : Gl X x) (hm : X.mg x = some (.ref f)) (hk : PySem.W.keepIn X.K (.ref f) = true) (hb : Binds X.K fd ps []) (tk : Takes X (WW X.mg W))
    (ha : PA X (e :: es) t) (hdb : (x == ("__debug__" : Str)) = false) (hs : noStar (e :: es) = true) : PE X (.Call (.Name x p) (e :: es) [] pos) (tCallG sp (WE' X.mg W) t) := by
  refine ⟨fun pins s σ H Q I h => wpAny_Call_Name_kw (ld_glob I hg hm (PySem.W.callWith_K (h₀ := X.base) I.ok.mod.kin hk ?_ (star_cons hs) (noStar_flat (noStar_tail hs))) hdb)⟩
  exact thn (ha.run pos pins s σ H _ I h) fun us s1 ⟨vs, H1, I1, r, q⟩ => ⟨I1.kIn, run_G F hr hgu hb tk I1 r q⟩
theorem pe_callG0 (F : FnG X.prog X.w X.K X.mg X.base k f fd ps sp) (hr : Room k X.A) (hgu : X.A.guards = some []) (hg : Gl X x) (hm : X.mg x = some (.ref f)) (hk : PySem.W.keepIn X.K (.ref f) = true) (hb : Binds X.K fd ps []) (tk : Takes X (WW X.mg W))
    (hdb : (x == ("__debug__" : Str)) = false) : PE X (.Call (.Name x p) [] [] pos) (tCallG sp (WE' X.mg W) tNil) :=
  ⟨fun pins s σ H Q I h => wpAny_Call_Name_kw (ld_glob I hg hm (PySem.W.callWith_K0 I.kIn hk (run_G (us := []) F hr hgu hb tk I .nil h)) hdb)⟩
end
section
variable {K : Fg} {B : Bs} {R H R' H' : Hp} {σ : L2.St} {e : Ev}
/-- behind a call that changes no list -/
theorem Rel.call (r : Rel K B R σ H e) (q : Past K R H R' H' none []) : Rel K B R' σ H' e where
  sub := q.sub
  r0 := r.r0.trans q.rr
  sl := fun i => by
    have s := r.sl i
    cases qi : e.at i with
    | un => trivial
    | sh d => rw [qi] at s; obtain ⟨v, h1, h2⟩ := s; exact ⟨v, h1, h2.mono q.rr⟩
    | ow ds =>
      rw [qi] at s; obtain ⟨a, vs, h1, h2, h3, h4⟩ := s
      refine ⟨a, vs, h1, ?_, q.fr _ _ h3 (fun z => nomatch z), h4.mono q.rr⟩
      cases z : R' a with
      | none => rfl
      | some o => rcases q.rn a o z with y | y
                  · rw [h2] at y; cases y
                  · rw [h3] at y; cases y
    | od ds =>
      rw [qi] at s; obtain ⟨a, vs, h1, h2, h3, h4⟩ := s
      refine ⟨a, vs, h1, ?_, q.fr _ _ h3 (fun z => nomatch z), h4.mono q.rr⟩
      cases z : R' a with
      | none => rfl
      | some o => rcases q.rn a o z with y | y
                  · rw [h2] at y; cases y
                  · rw [h3] at y; cases y
  inj := r.inj
  h0 := fun b o h n => q.fr b o (r.h0 b o h n) fun z => nomatch z
  new := r.new
  pen := r.pen
  rn := fun b o h => by
    rcases q.rn b o h with y | y
    · exact r.rn b o y
    · exact .inr (r.h0n y)
  len := r.len
theorem frm_call (q : Past K R H R' H' none []) : Frm σ e H H' := fun b o h _ => q.fr b o h fun z => nomatch z
/-- behind a call that may change the list of the name i -/
theorem Rel.callIo {i : Nat} {a : Addr} {xs : List PyData} (r : Rel K B R σ H e) (hi : ∃ ds, e.at i = .ow ds) (hn : nm σ i = some (.ref a)) (q : Past K R H R' H' (some a) xs) : Rel K B R' σ H' (e.set i (.ow xs)) := by
  obtain ⟨ds0, hi⟩ := hi
  have hu : e.at i ≠ .un := fun z => by rw [hi] at z; cases z
  have ho : (e.at i).own = true := by rw [hi]; rfl
  have ow : ∀ j, (Ev.at (e.set i (.ow xs)) j).own = true → (e.at j).own = true := fun j h => by
    rw [Ev.at_set hu] at h
    by_cases hj : j = i
    · subst hj; exact ho
    · rw [if_neg hj] at h; exact h
  have rn' : ∀ {b : Addr} {o : HO}, R b = none → H b = some o → R' b = none := fun {b o} h1 h2 => by
    cases z : R' b with
    | none => rfl
    | some o' => rcases q.rn b o' z with y | y
                 · rw [h1] at y; cases y
                 · rw [h2] at y; cases y
  refine ⟨q.sub, r.r0.trans q.rr, fun j => ?_, fun j k b h1 h2 => r.inj j k b (ow j h1) (ow k h2), fun b o h n => ?_, fun b ⟨j, h1, h2⟩ => r.new b ⟨j, ow j h1, h2⟩, fun b hb => ?_, fun b o h => ?_, by rw [List.length_set]; exact r.len⟩
  · rw [Ev.at_set hu]
    by_cases hj : j = i
    · rw [if_pos hj]; subst hj
      obtain ⟨ws, h1, h2⟩ := q.at_ a rfl
      obtain ⟨h3, o, h4⟩ := r.own_at ⟨j, ho, hn⟩
      exact ⟨a, ws, hn, rn' h3 h4, h1, h2⟩
    · rw [if_neg hj]
      have s := r.sl j
      cases qj : e.at j with
      | un => trivial
      | sh d => rw [qj] at s; obtain ⟨v, h1, h2⟩ := s; exact ⟨v, h1, h2.mono q.rr⟩
      | ow ds =>
        rw [qj] at s; obtain ⟨b, vs, h1, h2, h3, h4⟩ := s
        have ne : some a ≠ some b := fun z => hj (r.inj j i a (by rw [qj]; rfl) ho (by rw [h1, Option.some.inj z]) hn)
        exact ⟨b, vs, h1, rn' h2 h3, q.fr _ _ h3 ne, h4.mono q.rr⟩
      | od ds =>
        rw [qj] at s; obtain ⟨b, vs, h1, h2, h3, h4⟩ := s
        have ne : some a ≠ some b := fun z => hj (r.inj j i a (by rw [qj]; rfl) ho (by rw [h1, Option.some.inj z]) hn)
        exact ⟨b, vs, h1, rn' h2 h3, q.fr _ _ h3 ne, h4.mono q.rr⟩
  · refine q.fr b o (r.h0 b o h n) fun z => ?_
    cases z
    rcases r.new a ⟨i, ho, hn⟩ with y | y
    · rw [h] at y; cases y
    · exact n y
  · obtain ⟨h1, ds2, h2⟩ := r.pen b hb
    refine ⟨h1, ?_⟩
    rw [Ev.at_set hu]
    by_cases hj : 0 = i
    · rw [if_pos hj]; exact ⟨_, rfl⟩
    · rw [if_neg hj]; exact ⟨_, h2⟩
  · rcases q.rn b o h with y | y
    · exact r.rn b o y
    · exact .inr (r.h0n y)
theorem frm_callIo {i : Nat} {a : Addr} {xs : List PyData} (hi : (e.at i).own = true) (hn : nm σ i = some (.ref a)) (q : Past K R H R' H' (some a) xs) : Frm σ e H H' := fun b o h n => q.fr b o h fun z => by
  cases z; exact n ⟨i, hi, hn⟩
end
/-! ### the call as a function -/
def outF (r : FR) (e : Ev) : Rs Rv := match r with
  | .ret d _ => .ok (.sh d) e
  | .fresh ds _ => .ok (.fl ds) e
  | .ex c => .ex c
  | .bad => .bad
def outIo (i : Nat) (r : FR) (e : Ev) : Rs Rv := match r with
  | .ret d xs => .ok (.sh d) (e.set i (.ow xs))
  | .fresh ds xs => .ok (.fl ds) (e.set i (.ow xs))
  | .ex c => .ex c
  | .bad => .bad
def kFn (F : Fn) (rvs : List Rv) (e1 : Ev) : Rs Rv := match F.io with
  | false => (match shD rvs with
    | some ds => outF (F.den ds) e1
    | none => .bad)
  | true => (match rvs with
    | .sl i :: rest => (match e1.at i with
      | .ow xs => (match shD rest with
        | some ds => outIo i (F.den (.list xs :: ds)) e1
        | none => .bad)
      | _ => .bad)
    | _ => .bad)
def fFn (F : Fn) (fl : Ev → Rs (List Rv)) (e : Ev) : Rs Rv := (fl e).bind (kFn F)
section
variable {X : Cx} {B : Bs} {W : Wx} {R H : Hp} {σ : L2.St} {e : Ev} {n : Nat}
theorem past_none {K : Fg} {R H R' H' : Hp} {xs : List PyData} (q : Past K R H R' H' none xs) : Past K R H R' H' none [] := ⟨q.rr, q.sub, q.fr, q.rn, fun _ z => nomatch z⟩
theorem exq_call {K : Fg} {mg : Mg} {c : Str} {io : Option Addr} (r : Rel K B R σ H e) (hio : ∀ a, io = some a → OwnsAt σ e a) (h : exq B W c) : ∀ H', (∀ b o, H b = some o → io ≠ some b → H' b = some o) → ∀ C o, mg c = some (.ref C) → WE' mg W (.ref C) o H' :=
  fun H' hf C _ hC => ⟨c, C, rfl, hC, h H' fun b o hb hn => hf b o (r.h0 b o hb hn) fun z => by
    rcases r.new b (hio b z) with y | y
    · rw [hb] at y; cases y
    · exact hn y⟩
theorem kFn_of {F : Fn} {vs : List V} {rvs : List Rv} {Q : VK} (r : Rel X.K B R σ H e) (v : VRs X.K B R H σ e vs rvs) (hn : vs.length = n) (h : After X.K B W σ R H e (kFn F rvs e) Q) : spFn X.K X.mg n F vs H Q (WE' X.mg W) := by
  unfold kFn at h
  cases hio : F.io with
  | false =>
    rw [hio] at h
    simp only at h
    cases qs : shD rvs with
    | none => rw [qs] at h; exact h.elim
    | some ds =>
      rw [qs] at h
      simp only at h
      refine ⟨R, ds, none, r.sub, by rw [hio]; exact ⟨rfl, shD_dn v qs⟩, hn, ?_⟩
      cases qd : F.den ds with
      | bad => rw [qd] at h; exact h.elim
      | ex c => rw [qd] at h; exact exq_call r (fun _ z => nomatch z) h
      | ret d xs =>
        rw [qd] at h
        intro w R' H' p hd
        have p := past_none p
        exact h w R' H' p.rr (r.call p) (frm_call p) (.refl _) hd
      | fresh ds' xs =>
        rw [qd] at h
        intro a ws R' H' p h1 h2 h3 h4
        have p := past_none p
        have r' := r.call p
        exact h (.ref a) R' H' p.rr r' (frm_call p) (.refl _) ⟨a, ws, rfl, h2, h3, h4, r.not_own h1, r.h0n h1⟩
  | true =>
    rw [hio] at h
    simp only at h
    cases v with
    | nil => exact h.elim
    | @cons v0 vs0 rv rest v1 hs v2 =>
      cases rv with
      | sh d => exact h.elim
      | fl d => exact h.elim
      | fd d => exact h.elim
      | sl i =>
        simp only at h
        obtain ⟨n1, n2⟩ := v1
        cases qi : e.at i with
        | un => rw [qi] at h; exact h.elim
        | sh d => rw [qi] at h; exact h.elim
        | od d => rw [qi] at h; exact h.elim
        | ow xs =>
          rw [qi] at h
          simp only at h
          cases qs : shD rest with
          | none => rw [qs] at h; exact h.elim
          | some ds =>
            rw [qs] at h
            simp only at h
            have s := r.sl i
            rw [qi] at s
            obtain ⟨a, ws, e1, e2, e3, e4⟩ := s
            rw [n1] at e1; cases e1
            have oi : (e.at i).own = true := by rw [qi]; rfl
            refine ⟨R, .list xs :: ds, some a, r.sub, by rw [hio]; exact ⟨a, ws, xs, vs0, ds, rfl, rfl, rfl, e2, e3, e4, shD_dn v2 qs⟩, hn, ?_⟩
            cases qd : F.den (.list xs :: ds) with
            | bad => rw [qd] at h; exact h.elim
            | ex c => rw [qd] at h; exact exq_call r (fun b z => by cases z; exact ⟨i, oi, n1⟩) h
            | ret d xs' =>
              rw [qd] at h
              intro w R' H' p hd
              exact h w R' H' p.rr (r.callIo ⟨_, qi⟩ n1 p) (frm_callIo oi n1 p) (tr_put qi) hd
            | fresh ds' xs' =>
              rw [qd] at h
              intro b ws' R' H' p h1 h2 h3 h4
              have r' := r.callIo ⟨_, qi⟩ n1 p
              refine h (.ref b) R' H' p.rr r' (frm_callIo oi n1 p) (tr_put qi) ⟨b, ws', rfl, h2, h3, h4, fun z => ?_, r.h0n h1⟩
              exact r.not_own h1 ((tr_put qi).owns z)
/-- an own def's call -/
theorem dx_call {k : Nat} {f : Addr} {fd : FuncData} {ps : List Str} {F : Fn} {x : Str} {p pos : Pos} {e0 : Expr} {es : List Expr} {fl : Ev → Rs (List Rv)} (G : FnG X.prog X.w X.K X.mg X.base k f fd ps (spFn X.K X.mg ps.length F)) (hr : Room k X.A) (hgu : X.A.guards = some []) (hg : Gl X x) (hm : X.mg x = some (.ref f))
    (hk : PySem.W.keepIn X.K (.ref f) = true) (hb : Binds X.K fd ps []) (tk : Takes X (WW X.mg W)) (ha : DL X B W (e0 :: es) fl) (hl : (e0 :: es).length = ps.length) (hlf : ∀ e rvs e1, fl e = .ok rvs e1 → rvs.length = (e0 :: es).length) (hdb : (x == ("__debug__" : Str)) = false) (hs : noStar (e0 :: es) = true) :
    DX X B W (.Call (.Name x p) (e0 :: es) [] pos) (fFn F fl) := by
  refine pe_imp (pe_callG G hr hgu hg hm hk hb tk ha hdb hs) fun σ H Q h => ?_
  obtain ⟨R, e, r, h⟩ := h
  have h : After X.K B W σ R H e ((fl e).bind (kFn F)) Q := h
  refine ⟨R, e, r, ?_⟩
  cases q : fl e with
  | ex c => rw [q] at h; exact h
  | bad => rw [q] at h; exact h
  | ok rvs e1 =>
    rw [q] at h
    intro vs R1 H1 s1 r1 f1 t1 v1
    refine kFn_of r1 v1 ?_ (after_seq s1 f1 t1 h)
    have e2 := hlf e rvs e1 q
    have len : ∀ {vs : List V} {rvs : List Rv}, VRs X.K B R1 H1 σ e1 vs rvs → vs.length = rvs.length := by
      intro vs rvs h
      induction h with
      | nil => rfl
      | cons _ _ _ ih => simp [ih]
    rw [len v1, e2, hl]
theorem dx_call0 {k : Nat} {f : Addr} {fd : FuncData} {F : Fn} {x : Str} {p pos : Pos} (G : FnG X.prog X.w X.K X.mg X.base k f fd [] (spFn X.K X.mg 0 F)) (hr : Room k X.A) (hgu : X.A.guards = some []) (hg : Gl X x) (hm : X.mg x = some (.ref f))
    (hk : PySem.W.keepIn X.K (.ref f) = true) (hb : Binds X.K fd [] []) (tk : Takes X (WW X.mg W)) (hdb : (x == ("__debug__" : Str)) = false) : DX X B W (.Call (.Name x p) [] [] pos) (fFn F fNil) := by
  refine pe_imp (pe_callG0 G hr hgu hg hm hk hb tk hdb) fun σ H Q h => ?_
  obtain ⟨R, e, r, h⟩ := h
  exact kFn_of r .nil rfl h
/-- behind a call that changes a list that no name holds -/
theorem Rel.callFree {K : Fg} {R' H' : Hp} {a : Addr} {xs : List PyData} (r : Rel K B R σ H e) (no : ¬ OwnsAt σ e a) (b0 : B.H0 a = none) (q : Past K R H R' H' (some a) xs) : Rel K B R' σ H' e where
  sub := q.sub
  r0 := r.r0.trans q.rr
  sl := fun i => by
    have s := r.sl i
    cases qi : e.at i with
    | un => trivial
    | sh d => rw [qi] at s; obtain ⟨v, h1, h2⟩ := s; exact ⟨v, h1, h2.mono q.rr⟩
    | ow ds =>
      rw [qi] at s; obtain ⟨b, vs, h1, h2, h3, h4⟩ := s
      have ne : some a ≠ some b := fun z => no ⟨i, by rw [qi]; rfl, by rw [h1, Option.some.inj z]⟩
      refine ⟨b, vs, h1, ?_, q.fr _ _ h3 ne, h4.mono q.rr⟩
      cases z : R' b with
      | none => rfl
      | some o => rcases q.rn b o z with y | y
                  · rw [h2] at y; cases y
                  · rw [h3] at y; cases y
    | od ds =>
      rw [qi] at s; obtain ⟨b, vs, h1, h2, h3, h4⟩ := s
      have ne : some a ≠ some b := fun z => no ⟨i, by rw [qi]; rfl, by rw [h1, Option.some.inj z]⟩
      refine ⟨b, vs, h1, ?_, q.fr _ _ h3 ne, h4.mono q.rr⟩
      cases z : R' b with
      | none => rfl
      | some o => rcases q.rn b o z with y | y
                  · rw [h2] at y; cases y
                  · rw [h3] at y; cases y
  inj := r.inj
  h0 := fun b o h n => q.fr b o (r.h0 b o h n) fun z => by
    cases z
    rw [b0] at h; cases h
  new := r.new
  pen := r.pen
  rn := fun b o h => by
    rcases q.rn b o h with y | y
    · exact r.rn b o y
    · exact .inr (r.h0n y)
  len := r.len
/-- F of what G makes and a number: F may change what G made -/
def fFn2 (F G : Fn) (i : Int) (fl : Ev → Rs (List Rv)) (e : Ev) : Rs Rv := (fl e).bind fun rvs e1 => match shD rvs with
  | some ds => if F.io = true ∧ G.io = false then (match G.den ds with
    | .fresh xs _ => (match F.den [.list xs, .int i] with
      | .ret d _ => .ok (.sh d) e1
      | _ => .bad)
    | _ => .bad) else .bad
  | none => .bad
theorem dx_call2 {k k' : Nat} {f f' : Addr} {fd fd' : FuncData} {ps ps' : List Str} {F G : Fn} {x y : Str} {p p' pos pos' : Pos} {i : Int} {c e0 : Expr} {es : List Expr} {fl : Ev → Rs (List Rv)} (PF : FnG X.prog X.w X.K X.mg X.base k f fd ps (spFn X.K X.mg ps.length F)) (hr : Room k X.A) (PG : FnG X.prog X.w X.K X.mg X.base k' f' fd' ps' (spFn X.K X.mg ps'.length G)) (hr' : Room k' X.A) (hgu : X.A.guards = some [])
    (hg : Gl X x) (hm : X.mg x = some (.ref f)) (hk : PySem.W.keepIn X.K (.ref f) = true) (hb : Binds X.K fd ps []) (hg' : Gl X y) (hm' : X.mg y = some (.ref f')) (hk' : PySem.W.keepIn X.K (.ref f') = true) (hb' : Binds X.K fd' ps' []) (tk : Takes X (WW X.mg W))
    (ha : DL X B W (e0 :: es) fl) (hl : ps.length = 2) (hl' : (e0 :: es).length = ps'.length) (hlf : ∀ e rvs e1, fl e = .ok rvs e1 → rvs.length = (e0 :: es).length) (hdb : (x == ("__debug__" : Str)) = false) (hdb' : (y == ("__debug__" : Str)) = false) (hs : noStar (e0 :: es) = true)
    (hc : PE X c (tC (.int i))) (hsc : noStar [c] = true) : DX X B W (.Call (.Name x p) [.Call (.Name y p') (e0 :: es) [] pos', c] [] pos) (fFn2 F G i fl) := by
  have hin := pe_callG (X := X) (p := p') (pos := pos') PG hr' hgu hg' hm' hk' hb' tk ha hdb' hs
  have hs2 : noStar [Expr.Call (.Name y p') (e0 :: es) [] pos', c] = true := by
    show (true && noStar [c]) = true
    rw [hsc]; rfl
  refine pe_imp (pe_callG PF hr hgu hg hm hk hb tk (pa_cons hin (pa_cons hc pa_nil (star_cons hsc)) rfl) hdb hs2) fun σ H Q h => ?_
  obtain ⟨R, e, r, h⟩ := h
  refine ⟨R, e, r, ?_⟩
  have h : After X.K B W σ R H e ((fl e).bind fun rvs e1 => match shD rvs with
    | some ds => if F.io = true ∧ G.io = false then (match G.den ds with
      | .fresh xs _ => (match F.den [.list xs, .int i] with
        | .ret d _ => .ok (.sh d) e1
        | _ => .bad)
      | _ => .bad) else .bad
    | none => .bad) Q := h
  cases q : fl e with
  | ex c => rw [q] at h; exact h
  | bad => rw [q] at h; exact h
  | ok rvs e1 =>
    rw [q] at h
    intro vs R1 H1 s1 r1 f1 t1 v1
    have h := after_seq s1 f1 t1 h
    have hn : vs.length = ps'.length := by
      have e2 := hlf e rvs e1 q
      have len : ∀ {vs : List V} {rvs : List Rv}, VRs X.K B R1 H1 σ e1 vs rvs → vs.length = rvs.length := by
        intro vs rvs h
        induction h with
        | nil => rfl
        | cons _ _ _ ih => simp [ih]
      rw [len v1, e2, hl']
    cases qs : shD rvs with
    | none => simp only [Rs.bind, qs] at h; exact h.elim
    | some ds =>
      simp only [Rs.bind, qs] at h
      split at h
      · rename_i hio
        obtain ⟨hF, hG⟩ := hio
        refine ⟨R1, ds, none, r1.sub, by rw [hG]; exact ⟨rfl, shD_dn v1 qs⟩, hn, ?_⟩
        cases qd : G.den ds with
        | bad => rw [qd] at h; exact h.elim
        | ex c => rw [qd] at h; exact h.elim
        | ret d xs => rw [qd] at h; exact h.elim
        | fresh xs ys =>
          rw [qd] at h
          simp only at h
          intro a ws R2 H2 past g1 g2 g3 g4
          have past := past_none past
          have r2 := r1.call past
          show spFn X.K X.mg ps.length F [.ref a, .int i] H2 Q (WE' X.mg W)
          refine ⟨R2, [.list xs, .int i], some a, r2.sub, by rw [hF]; exact ⟨a, ws, xs, [.int i], [.int i], rfl, rfl, rfl, g2, g3, g4, .cons (.int i) .nil⟩, by rw [hl]; rfl, ?_⟩
          cases qf : F.den [.list xs, .int i] with
          | bad => rw [qf] at h; exact h.elim
          | ex c => rw [qf] at h; exact h.elim
          | fresh ds2 ys2 => rw [qf] at h; exact h.elim
          | ret d ys2 =>
            rw [qf] at h
            simp only at h
            intro w R3 H3 past3 hd
            exact h w R3 H3 (past.rr.trans past3.rr) (r2.callFree (r1.not_own g1) (r1.h0n g1) past3)
              (fun b o hb hn2 => past3.fr b o (past.fr b o hb fun z => nomatch z) fun z => by
                cases z
                rw [g1] at hb; cases hb) (.refl _) hd
      · exact h.elim
end
end PV
namespace PV
open PySem PySem.Spec PyProof.Rows L2

inductive Fl where
  | nx (e : Ev)
  | rt (rv : Rv) (e : Ev)
  | bk (e : Ev)
  | ct (e : Ev)
  | ex (c : Str)
  | bad
def AfterS (K : Fg) (B : Bs) (W : Wx) (R : Hp) (r : Fl) (D : Ends) : Prop := match r with
  | .nx e => ∀ σ R' H, Same R R' → Rel K B R' σ H e → D.nx σ H
  | .bk e => ∀ σ R' H, Same R R' → Rel K B R' σ H e → D.bk σ H
  | .ct e => ∀ σ R' H, Same R R' → Rel K B R' σ H e → D.ct σ H
  | .rt rv e => ∀ v σ R' H, Same R R' → Rel K B R' σ H e → VR K B R' H σ e v rv → D.rt v H
  | .ex c => exq B W c
  | .bad => False
def tS (K : Fg) (B : Bs) (W : Wx) (f : Ev → Fl) : TS := fun D σ H => ∃ R e, Rel K B R σ H e ∧ AfterS K B W R (f e) D
abbrev DS (X : Cx) (B : Bs) (W : Wx) (st : Stmt) (f : Ev → Fl) : Prop := PS X st (tS X.K B W f)
abbrev DSs (X : Cx) (B : Bs) (W : Wx) (st : List Stmt) (f : Ev → Fl) : Prop := PSs X st (tS X.K B W f)
theorem ps_imp {X : Cx} {a : Stmt} {t t' : TS} (h : PS X a t) (i : ∀ D σ H, t' D σ H → t D σ H) : PS X a t' := ⟨fun pins s σ H D I q => h.run pins s σ H D I (i D σ H q)⟩
theorem pss_imp {X : Cx} {a : List Stmt} {t t' : TS} (h : PSs X a t) (i : ∀ D σ H, t' D σ H → t D σ H) : PSs X a t' := ⟨fun pins s σ H D I q => h.run pins s σ H D I (i D σ H q)⟩
theorem afterS_seq {K : Fg} {B : Bs} {W : Wx} {R R1 : Hp} {r : Fl} {D : Ends} (s : Same R R1) (h : AfterS K B W R r D) : AfterS K B W R1 r D := by
  cases r with
  | nx e => exact fun σ R' H s' => h σ R' H (s.trans s')
  | bk e => exact fun σ R' H s' => h σ R' H (s.trans s')
  | ct e => exact fun σ R' H s' => h σ R' H (s.trans s')
  | rt rv e => exact fun v σ R' H s' => h v σ R' H (s.trans s')
  | ex c => exact h
  | bad => exact h
def Fl.seq (r : Fl) (k : Ev → Fl) : Fl := match r with
  | .nx e => k e
  | r => r
section
variable {X : Cx} {B : Bs} {W : Wx} {st : Stmt} {rest : List Stmt} {a : Expr} {fa fb : Ev → Rs Rv} {f g : Ev → Fl} {pos p pos' : Pos}
theorem dss_nil : DSs X B W [] .nx := pss_imp pss_nil fun D σ H ⟨R, e, r, h⟩ => h σ R H (Same.refl _) r
theorem dss_cons (h1 : DS X B W st f) (h2 : DSs X B W rest g) : DSs X B W (st :: rest) (fun e => (f e).seq g) := by
  refine pss_imp (pss_cons h1 h2) fun D σ H h => ?_
  obtain ⟨R, e, r, h⟩ := h
  refine ⟨R, e, r, ?_⟩
  have h : AfterS X.K B W R ((f e).seq g) D := h
  cases q : f e with
  | nx e1 => rw [q] at h; exact fun σ R' H' s r' => ⟨R', e1, r', afterS_seq s h⟩
  | bk e1 => rw [q] at h; exact h
  | ct e1 => rw [q] at h; exact h
  | rt rv e1 => rw [q] at h; exact h
  | ex c => rw [q] at h; exact h
  | bad => rw [q] at h; exact h
theorem dss_one (h1 : DS X B W st f) : DSs X B W [st] f := pss_one h1
theorem ds_pass : DS X B W (.Pass pos) .nx := ps_imp ps_pass fun D σ H ⟨R, e, r, h⟩ => h σ R H (Same.refl _) r
theorem ds_break : DS X B W (.Break pos) .bk := ps_imp ps_break fun D σ H ⟨R, e, r, h⟩ => h σ R H (Same.refl _) r
theorem ds_cont : DS X B W (.Continue pos) .ct := ps_imp ps_continue fun D σ H ⟨R, e, r, h⟩ => h σ R H (Same.refl _) r
theorem ds_doc {x : Str} {j : Nat} : DS X B W (.Expr (.Constant (.str x) j p) pos) .nx := ps_imp ps_doc fun D σ H ⟨R, e, r, h⟩ => h σ R H (Same.refl _) r
/-- an expression, then a statement's rest -/
def Rs.then (r : Rs Rv) (k : Rv → Ev → Fl) : Fl := match r with
  | .ok rv e => k rv e
  | .ex c => .ex c
  | .bad => .bad
theorem tS_expr {K : Fg} {k : Rv → Ev → Fl} {σ : L2.St} {H : Hp} {D : Ends} (h : tS K B W (fun e => (fa e).then k) D σ H) :
    tX K B W fa σ H fun x H1 => ∃ R e rv, Rel K B R σ H1 e ∧ VR K B R H1 σ e x rv ∧ AfterS K B W R (k rv e) D := by
  obtain ⟨R, e, r, h⟩ := h
  refine ⟨R, e, r, ?_⟩
  have h : AfterS K B W R ((fa e).then k) D := h
  cases q : fa e with
  | ex c => rw [q] at h; exact h
  | bad => rw [q] at h; exact h
  | ok rv e1 => rw [q] at h; exact fun x R1 H1 s1 r1 f1 t1 v1 => ⟨R1, e1, rv, r1, v1, afterS_seq s1 h⟩
def fExp (fa : Ev → Rs Rv) (e : Ev) : Fl := (fa e).then fun _ e1 => .nx e1
theorem ds_expr (ha : DX X B W a fa) (hs : swapsWith a none pos.line X.env = pure false) : DS X B W (.Expr a pos) (fExp fa) :=
  ps_imp (ps_expr ha hs) fun D σ H h => te_mono (tS_expr h) fun v H1 ⟨R, e, rv, r, _, h⟩ => h σ R H1 (Same.refl _) r
def fRet (fa : Ev → Rs Rv) (e : Ev) : Fl := (fa e).then .rt
theorem ds_ret (ha : DX X B W a fa) : DS X B W (.Return (some a) pos) (fRet fa) :=
  ps_imp (ps_ret ha) fun D σ H h => te_mono (tS_expr h) fun v H1 ⟨R, e, rv, r, vr, h⟩ => h v σ R H1 (Same.refl _) r vr
theorem ds_retN : DS X B W (.Return none pos) (fun e => .rt (.sh .none) e) :=
  ps_imp ps_retN fun D σ H ⟨R, e, r, h⟩ => h .non σ R H (Same.refl _) r .non
def fIfS (c : Ev → Rs Bool) (f g : Ev → Fl) (e : Ev) : Fl := match c e with
  | .ok true e1 => f e1
  | .ok false e1 => g e1
  | .ex c => .ex c
  | .bad => .bad
theorem ds_if {c : Expr} {fc : Ev → Rs Bool} {xs ys : List Stmt} (hc : DT X B W c fc) (h1 : DSs X B W xs f) (h2 : DSs X B W ys g) : DS X B W (.If c xs ys pos) (fIfS fc f g) := by
  refine ps_imp (ps_if hc h1 h2) fun D σ H h => ?_
  obtain ⟨R, e, r, h⟩ := h
  refine ⟨R, e, r, ?_⟩
  unfold fIfS at h
  cases q : fc e with
  | ex c => rw [q] at h; exact h
  | bad => rw [q] at h; exact h
  | ok b e1 =>
    rw [q] at h
    intro R1 H1 s1 r1 f1 t1
    cases b with
    | true => exact ⟨R1, e1, r1, afterS_seq s1 h⟩
    | false => exact ⟨R1, e1, r1, afterS_seq s1 h⟩
end

/-! ### a name is given -/
theorem nm_set {σ : L2.St} {i j : Nat} {v : Option V} (hi : i < σ.length) : nm (σ.set i v) j = if j = i then v else nm σ j := by
  unfold nm
  by_cases hj : j = i
  · subst hj; rw [List.getElem?_set_self hi, if_pos rfl]; rfl
  · rw [List.getElem?_set_ne (Ne.symm hj), if_neg hj]
theorem Ev.at_set' {e : Ev} {i j : Nat} {s : Sl} (hi : i < e.length) : Ev.at (e.set i s) j = if j = i then s else e.at j := by
  unfold Ev.at
  rw [List.getD_eq_getElem?_getD, List.getD_eq_getElem?_getD]
  by_cases hj : j = i
  · subst hj; rw [if_pos rfl, List.getElem?_set_self hi]; rfl
  · rw [if_neg hj, List.getElem?_set_ne (Ne.symm hj)]
section
variable {K : Fg} {B : Bs} {R H : Hp} {σ : L2.St} {e : Ev}
theorem Rel.give {i : Nat} {s : Sl} {v : Option V} (r : Rel K B R σ H e) (hi : i < e.length) (hs : SlR K R H v s) (hp : B.io = none ∨ i ≠ 0)
    (ho : s.own = true → ∀ a, v = some (.ref a) → ¬ OwnsAt σ e a ∧ B.H0 a = none) : Rel K B R (σ.set i v) H (e.set i s) := by
  have hσ : i < σ.length := by rw [← r.len]; exact hi
  refine ⟨r.sub, r.r0, fun j => ?_, fun j k a h1 h2 n1 n2 => ?_, r.h0, fun a ⟨j, h1, h2⟩ => ?_, fun a ha => ?_, r.rn, by rw [List.length_set, List.length_set]; exact r.len⟩
  · rw [Ev.at_set' hi, nm_set hσ]
    by_cases hj : j = i
    · rw [if_pos hj, if_pos hj]; exact hs
    · rw [if_neg hj, if_neg hj]; exact r.sl j
  · rw [Ev.at_set' hi] at h1 h2
    rw [nm_set hσ] at n1 n2
    by_cases hj : j = i
    · by_cases hk : k = i
      · rw [hj, hk]
      · rw [if_pos hj] at h1 n1; rw [if_neg hk] at h2 n2
        exact absurd ⟨k, h2, n2⟩ (ho h1 a n1).1
    · by_cases hk : k = i
      · rw [if_pos hk] at h2 n2; rw [if_neg hj] at h1 n1
        exact absurd ⟨j, h1, n1⟩ (ho h2 a n2).1
      · rw [if_neg hj] at h1 n1; rw [if_neg hk] at h2 n2
        exact r.inj j k a h1 h2 n1 n2
  · rw [Ev.at_set' hi] at h1
    rw [nm_set hσ] at h2
    by_cases hj : j = i
    · rw [if_pos hj] at h1 h2; exact .inl (ho h1 a h2).2
    · rw [if_neg hj] at h1 h2; exact r.new a ⟨j, h1, h2⟩
  · rcases hp with z | z
    · rw [z] at ha; cases ha
    · rw [Ev.at_set' hi, nm_set hσ, if_neg (Ne.symm z), if_neg (Ne.symm z)]; exact r.pen a ha
end
/-- the names' new knowledge, where a value is given to the name i -/
def putN (io : Bool) (i : Nat) (rv : Rv) (e : Ev) : Option Ev := if (io && i == 0) = true ∨ ¬ i < e.length then none else match rv with
  | .sh d => some (e.set i (.sh d))
  | .fl ds => some (e.set i (.ow ds))
  | .fd es => some (e.set i (.od es))
  | .sl _ => none
def fAsg (io : Bool) (i : Nat) (fa : Ev → Rs Rv) (e : Ev) : Fl := (fa e).then fun rv e1 => match putN io i rv e1 with
  | some e2 => .nx e2
  | none => .bad
/-- a name's own object is given to another name: from now on it stands still -/
def shrS (io : Bool) : Rs Rv → Rs Rv
  | .ok (.sl i) e => shr io (.ok (.sl i) e)
  | r => r
section
variable {X : Cx} {B : Bs} {W : Wx} {st : Stmt} {rest : List Stmt} {a : Expr} {fa fb : Ev → Rs Rv} {f g : Ev → Fl} {pos p pos' : Pos} {io : Bool}
theorem io_or {i : Nat} (hio : io = B.io.isSome) (h : ¬ (io && i == 0) = true) : B.io = none ∨ i ≠ 0 := by
  by_cases hi : i = 0
  · subst hi
    left
    cases hb : B.io with
    | none => rfl
    | some z => rw [hb] at hio; subst hio; exact absurd rfl h
  · exact .inr hi
theorem dx_shareS (hio : io = B.io.isSome) (h : DX X B W a fa) : DX X B W a (fun e => shrS io (fa e)) := by
  have h1 := dx_share (io := io) hio h
  refine ⟨fun pins s σ H Q I q => ?_⟩
  obtain ⟨R, e, r, q⟩ := q
  have q : After X.K B W σ R H e (shrS io (fa e)) Q := q
  cases qf : fa e with
  | ex c => rw [qf] at q; exact h.run pins s σ H Q I ⟨R, e, r, by rw [qf]; exact q⟩
  | bad => rw [qf] at q; exact q.elim
  | ok rv e1 =>
    rw [qf] at q
    cases rv with
    | sl i => exact h1.run pins s σ H Q I ⟨R, e, r, by show After X.K B W σ R H e (shr io (fa e)) Q; rw [qf]; exact q⟩
    | sh d => exact h.run pins s σ H Q I ⟨R, e, r, by rw [qf]; exact q⟩
    | fl d => exact h.run pins s σ H Q I ⟨R, e, r, by rw [qf]; exact q⟩
    | fd d => exact h.run pins s σ H Q I ⟨R, e, r, by rw [qf]; exact q⟩
theorem putN_ok {K : Fg} {R H : Hp} {σ : L2.St} {e e2 : Ev} {i : Nat} {rv : Rv} {v : V} (hio : io = B.io.isSome) (r : Rel K B R σ H e) (vr : VR K B R H σ e v rv) (h : putN io i rv e = some e2) : Rel K B R (σ.set i (some v)) H e2 := by
  unfold putN at h
  split at h
  · cases h
  · rename_i hc
    have hc1 : ¬ (io && i == 0) = true := fun z => hc (.inl z)
    have hc2 : i < e.length := by
      by_cases hz : i < e.length
      · exact hz
      · exact absurd (.inr hz) hc
    have hp := io_or (B := B) hio hc1
    cases rv with
    | sh d =>
      cases Option.some.inj h
      exact r.give hc2 ⟨v, rfl, vr⟩ hp fun z => nomatch z
    | fl ds =>
      cases Option.some.inj h
      obtain ⟨ad, vs, rfl, h1, h2, h3, h4, h5⟩ := vr
      exact r.give hc2 ⟨ad, vs, rfl, h1, h2, h3⟩ hp fun _ b hb => by cases hb; exact ⟨h4, h5⟩
    | fd ds =>
      cases Option.some.inj h
      obtain ⟨ad, vs, rfl, h1, h2, h3, h4, h5⟩ := vr
      exact r.give hc2 ⟨ad, vs, rfl, h1, h2, h3⟩ hp fun _ b hb => by cases hb; exact ⟨h4, h5⟩
    | sl j => cases h
theorem asg_of {K : Fg} {i : Nat} {σ : L2.St} {H : Hp} {D : Ends} (hio : io = B.io.isSome) (h : tS K B W (fAsg io i fa) D σ H) : tAsg (tX K B W fa) (gName i) D σ H := by
  refine te_mono (tS_expr h) fun v H1 ⟨R, e, rv, r, vr, h⟩ => ?_
  cases q : putN io i rv e with
  | none => rw [q] at h; exact h.elim
  | some e2 => rw [q] at h; exact h _ R H1 (Same.refl _) (putN_ok hio r vr q)
/-- name = e -/
theorem ds_set {i : Nat} {x : Str} {pos'' : Pos} (hio : io = B.io.isSome) (hN : X.N.Nodup) (hi : X.N[i]? = some x) (hx : Loc X.env.scope x) (ha : DX X B W a fa) (hs : swapsWith a (some (.Name x pos')) pos.line X.env = pure false) (hf : X.fn x = true ∨ X.env.scope.names.lookup x = some .local) :
    DS X B W (.Assign [.Name x pos'] a pos) (fAsg io i (fun e => shrS io (fa e))) :=
  ps_imp (ps_set hN hi hx (dx_shareS hio ha) hs hf) fun _ _ _ h => asg_of hio h

/-! ### targets, by what is still -/
def setAll : List Nat → List V → L2.St → L2.St
  | i :: is, v :: vs, σ => setAll is vs (σ.set i (some v))
  | _, _, σ => σ
abbrev Tgt := PyData → Ev → Option Ev
def tG (K : Fg) (B : Bs) (is : List Nat) (t : Tgt) : TG := fun v σ H Q => ∃ R e d, Rel K B R σ H e ∧ Dn K R v d ∧ match t d e with
  | some e' => ∀ σ', (∃ vs, vs.length = is.length ∧ σ' = setAll is vs σ) → Rel K B R σ' H e' → Q σ' H
  | none => False
abbrev DG (X : Cx) (B : Bs) (tg : Expr) (is : List Nat) (t : Tgt) : Prop := PG X tg (tG X.K B is t)
theorem pg_imp {tg : Expr} {t t' : TG} (h : PG X tg t) (i : ∀ v σ H Q, t' v σ H Q → t v σ H Q) : PG X tg t' := ⟨fun pins s σ H v u Q I r q => h.run pins s σ H v u Q I r (i v σ H Q q)⟩
def tgN (io : Bool) (i : Nat) : Tgt := fun d e => putN io i (.sh d) e
theorem dg_name {i : Nat} {x : Str} (hio : io = B.io.isSome) (hN : X.N.Nodup) (hi : X.N[i]? = some x) (hx : Loc X.env.scope x) (hf : X.fn x = true ∨ X.env.scope.names.lookup x = some .local) : DG X B (.Name x p) [i] (tgN io i) := by
  refine pg_imp (pg_name hN hi hx hf) fun v σ H Q h => ?_
  obtain ⟨R, e, d, r, hd, h⟩ := h
  unfold tgN at h
  cases q : putN io i (.sh d) e with
  | none => rw [q] at h; exact h.elim
  | some e2 => rw [q] at h; exact h _ ⟨[v], rfl, rfl⟩ (putN_ok (rv := .sh d) hio r hd q)
/-- several targets -/
abbrev Tgts := List PyData → Ev → Option Ev
def tGs (K : Fg) (B : Bs) (is : List Nat) (t : Tgts) : TGs := fun vs σ H Q => ∃ R e ds, Rel K B R σ H e ∧ DnA K R vs ds ∧ match t ds e with
  | some e' => ∀ σ', (∃ vs, vs.length = is.length ∧ σ' = setAll is vs σ) → Rel K B R σ' H e' → Q σ' H
  | none => False
abbrev DGs (X : Cx) (B : Bs) (tg : List Expr) (is : List Nat) (t : Tgts) : Prop := PGs X tg (tGs X.K B is t)
theorem setAll_app : ∀ {is js : List Nat} {vs ws : List V} {σ : L2.St}, vs.length = is.length → setAll (is ++ js) (vs ++ ws) σ = setAll js ws (setAll is vs σ)
  | [], _, [], _, _, _ => rfl
  | _ :: is, js, v :: vs, ws, σ, h => by
    show setAll (is ++ js) (vs ++ ws) (σ.set _ (some v)) = _
    rw [setAll_app (by simpa using h)]; rfl
theorem pgs_imp {tg : List Expr} {t t' : TGs} (h : PGs X tg t) (i : ∀ v σ H Q, t' v σ H Q → t v σ H Q) : PGs X tg t' := ⟨fun pins s σ H v u Q I r q => h.run pins s σ H v u Q I r (i v σ H Q q)⟩
def tgNil : Tgts := fun ds e => match ds with
  | [] => some e
  | _ => none
def tgCons (t : Tgt) (u : Tgts) : Tgts := fun ds e => match ds with
  | [] => none
  | d :: r => (t d e).bind (u r)
theorem dgs_nil : DGs X B [] [] tgNil := by
  refine pgs_imp pgs_nil fun vs σ H Q h => ?_
  obtain ⟨R, e, ds, r, hd, h⟩ := h
  cases hd with
  | nil => exact ⟨rfl, h σ ⟨[], rfl, rfl⟩ r⟩
  | cons _ _ => exact h.elim
theorem dgs_cons {a : Expr} {as : List Expr} {t : Tgt} {u : Tgts} {is js : List Nat} (h1 : DG X B a is t) (h2 : DGs X B as js u) (hs : (assignEach (a :: as) X.env).map (·.2) = assign a X.env :: (assignEach as X.env).map (·.2)) : DGs X B (a :: as) (is ++ js) (tgCons t u) := by
  refine pgs_imp (pgs_cons h1 h2 hs) fun vs σ H Q h => ?_
  obtain ⟨R, e, ds, r, hd, h⟩ := h
  cases hd with
  | nil => exact h.elim
  | @cons v vs d ds a b =>
    refine ⟨v, vs, rfl, R, e, d, r, a, ?_⟩
    have h : (match (t d e).bind (u ds) with
      | some e' => ∀ σ', (∃ vs, vs.length = (is ++ js).length ∧ σ' = setAll (is ++ js) vs σ) → Rel X.K B R σ' H e' → Q σ' H
      | none => False) := h
    cases q : t d e with
    | none => rw [q] at h; exact h.elim
    | some e1 =>
      rw [q] at h
      simp only [Option.bind_some] at h
      rintro σ' ⟨ws, lw, rfl⟩ r'
      refine ⟨R, e1, ds, r', b, ?_⟩
      cases q2 : u ds e1 with
      | none => rw [q2] at h; exact h
      | some e3 =>
        rw [q2] at h
        rintro σ2 ⟨xs, lx, rfl⟩ r2
        exact h _ ⟨ws ++ xs, by rw [List.length_append, List.length_append, lw, lx], (setAll_app lw).symm⟩ r2
def tgTup (n : Nat) (u : Tgts) : Tgt := fun d e => match d with
  | .tuple ds => if ds.length = n then u ds e else none
  | _ => none
theorem dg_tup {as : List Expr} {k n : Nat} {u : Tgts} {is : List Nat} (hc : X.calm = true) (h : DGs X B as is u) (hn : (assignEach as X.env).length = n) (hst : (assignEach as X.env).findIdx? (·.1) = none) : DG X B (.Tuple as k p) is (tgTup n u) := by
  refine pg_imp (pg_tup hc h hn hst) fun v σ H Q h => ?_
  obtain ⟨R, e, d, r, hd, h⟩ := h
  cases hd with
  | @tup a vs ds h1 h2 =>
    unfold tgTup at h
    simp only at h
    by_cases hz : ds.length = n
    · rw [if_pos hz] at h
      exact ⟨a, vs, rfl, sqT_same r.sub h1, by rw [h2.length]; exact hz, R, e, ds, r, h2, h⟩
    · rw [if_neg hz] at h; exact h.elim
  | _ => exact h.elim
/-- target = e -/
def fAsgT (t : Tgt) (fa : Ev → Rs Rv) (e : Ev) : Fl := (fa e).then fun rv e1 => match rv with
  | .sh d => (match t d e1 with
    | some e2 => .nx e2
    | none => .bad)
  | _ => .bad
theorem ds_asgT {tg : Expr} {t : Tgt} {is : List Nat} (hio : io = B.io.isSome) (ha : DX X B W a fa) (hg : DG X B tg is t) (hs : swapsWithSole [tg] a pos.line X.env = pure false) (hw : swappedStores [tg] a X.env = pure none) (h1 : (assignEach [tg] X.env).map (·.2) = [assign tg X.env]) :
    DS X B W (.Assign [tg] a pos) (fAsgT t (fun e => shr io (fa e))) := by
  refine ps_imp (ps_asg (dx_share hio ha) hg hs hw h1) fun D σ H h => ?_
  refine te_mono (tS_expr h) fun v H1 ⟨R, e, rv, r, vr, h⟩ => ?_
  cases rv with
  | fl d => exact h.elim
  | fd d => exact h.elim
  | sl d => exact h.elim
  | sh d =>
    simp only at h
    refine ⟨R, e, d, r, vr, ?_⟩
    cases q : t d e with
    | none => rw [q] at h; exact h.elim
    | some e2 => rw [q] at h; exact fun σ' _ r' => h σ' R H1 (Same.refl _) r'
/-- a, b = x, y of plain names -/
def fPar (io : Bool) (i j : Nat) (fl : Ev → Rs (List Rv)) (e : Ev) : Fl := match fl e with
  | .ok [ra, rb] e1 => (match putN io i ra e1 with
    | some e2 => (match putN io j rb e2 with
      | some e3 => .nx e3
      | none => .bad)
    | none => .bad)
  | .ex c => .ex c
  | _ => .bad
end
end PV
namespace PV
open PySem PySem.Spec PyProof.Rows L2
section
variable {K : Fg} {B : Bs} {R H : Hp} {σ : L2.St} {e : Ev} {W : Wx}
/-- the base with one more object that is left alone -/
def Bs.guard (B : Bs) (a : Addr) (o : HO) : Bs := { B with H0 := upd B.H0 a o }
theorem Rel.guard {a : Addr} {o : HO} (r : Rel K B R σ H e) (h1 : R a = none) (h2 : H a = some o) (h4 : ¬ OwnsAt σ e a) : Rel K (B.guard a o) R σ H e :=
  ⟨r.sub, r.r0, r.sl, r.inj, fun b u q n => by
    by_cases hb : b = a
    · rw [hb] at q ⊢
      have q : upd B.H0 a o a = some u := q
      rw [upd_same] at q; cases q; exact h2
    · have q : upd B.H0 a o b = some u := q
      rw [upd_ne hb] at q; exact r.h0 b u q n, fun b hb => by
    have ne : b ≠ a := fun z => h4 (by rw [← z]; exact hb)
    rcases r.new b hb with z | z
    · exact .inl (by show upd B.H0 a o b = none; rw [upd_ne ne]; exact z)
    · exact .inr z, r.pen, fun b u q => by
    have ne : b ≠ a := fun z => by rw [z, h1] at q; cases q
    rcases r.rn b u q with z | z
    · exact .inl z
    · exact .inr (by show upd B.H0 a o b = none; rw [upd_ne ne]; exact z), r.len⟩
theorem Rel.unguard {a : Addr} {o : HO} (h0 : B.H0 a = none) (r : Rel K (B.guard a o) R σ H e) : Rel K B R σ H e :=
  ⟨r.sub, r.r0, r.sl, r.inj, fun b u q n => by
    have ne : b ≠ a := fun z => by rw [z, h0] at q; cases q
    exact r.h0 b u (by show upd B.H0 a o b = some u; rw [upd_ne ne]; exact q) n, fun b hb => by
    by_cases ne : b = a
    · rw [ne]; exact .inl h0
    · rcases r.new b hb with z | z
      · have z : upd B.H0 a o b = none := z
        rw [upd_ne ne] at z; exact .inl z
      · exact .inr z, r.pen, fun b u q => by
    rcases r.rn b u q with z | z
    · exact .inl z
    · by_cases ne : b = a
      · rw [ne]; exact .inr h0
      · have z : upd B.H0 a o b = none := z
        rw [upd_ne ne] at z; exact .inr z, r.len⟩
theorem exq_guard {a : Addr} {o : HO} {c : Str} (h0 : B.H0 a = none) (h : exq B W c) : exq (B.guard a o) W c := fun H' hf => h H' fun b u q n => hf b u (by
  have ne : b ≠ a := fun z => by rw [z, h0] at q; cases q
  show upd B.H0 a o b = some u; rw [upd_ne ne]; exact q) n
/-- it has a list or dict of its own that no name bears -/
def freshAt (v : V) : Rv → Option Addr
  | .fl _ => match v with | .ref a => some a | _ => none
  | .fd _ => match v with | .ref a => some a | _ => none
  | _ => none
/-- values just made, each with its own new object -/
inductive VRr (K : Fg) (B : Bs) (R H : Hp) (σ : L2.St) (e : Ev) : List V → List Rv → Prop
  | nil : VRr K B R H σ e [] []
  | cons {v vs rv rvs} : VR K B R H σ e v rv → (∀ a, freshAt v rv = some a → ∀ p ∈ vs.zip rvs, freshAt p.1 p.2 ≠ some a) → VRr K B R H σ e vs rvs → VRr K B R H σ e (v :: vs) (rv :: rvs)
def AfterR (K : Fg) (B : Bs) (W : Wx) (σ : L2.St) (R H : Hp) (e : Ev) (r : Rs (List Rv)) (Q : List V → Hp → Prop) : Prop := match r with
  | .ok rvs e' => ∀ vs R' H', Same R R' → Rel K B R' σ H' e' → Frm σ e H H' → Tr e e' → VRr K B R' H' σ e' vs rvs → Q vs H'
  | .ex c => exq B W c
  | .bad => False
def tR (K : Fg) (B : Bs) (W : Wx) (f : Ev → Rs (List Rv)) : TA := fun σ H Q => ∃ R e, Rel K B R σ H e ∧ AfterR K B W σ R H e (f e) Q
end
def evR : List (Ev → Rs Rv) → Ev → Rs (List Rv)
  | [], e => .ok [] e
  | f :: fs, e => (f e).bind fun rv e1 => match rv with
    | .sl _ => .bad
    | rv => (evR fs e1).bind fun rvs e2 => .ok (rv :: rvs) e2
inductive DXs (X : Cx) (W : Wx) (io : Bool) : List Expr → List (Ev → Rs Rv) → Prop
  | nil : DXs X W io [] []
  | cons {a as f fs} : (∀ B : Bs, io = B.io.isSome → DX X B W a f) → noStar (a :: as) = true → DXs X W io as fs → DXs X W io (a :: as) (f :: fs)
section
variable {X : Cx} {W : Wx} {io : Bool}
theorem fresh_R {K : Fg} {B : Bs} {R H : Hp} {σ : L2.St} {e : Ev} {v : V} {rv : Rv} {a : Addr} (h : VR K B R H σ e v rv) (hf : freshAt v rv = some a) : v = .ref a ∧ R a = none ∧ (∃ o, H a = some o) ∧ ¬ OwnsAt σ e a ∧ B.H0 a = none := by
  cases rv with
  | sh d => cases hf
  | sl d => cases hf
  | fl d =>
    obtain ⟨b, vs, rfl, h1, h2, h3, h4, h5⟩ := h
    cases hf
    exact ⟨rfl, h1, ⟨_, h2⟩, h4, h5⟩
  | fd d =>
    obtain ⟨b, vs, rfl, h1, h2, h3, h4, h5⟩ := h
    cases hf
    exact ⟨rfl, h1, ⟨_, h2⟩, h4, h5⟩
theorem freshs_R {K : Fg} {B : Bs} {R H : Hp} {σ : L2.St} {e : Ev} {vs : List V} {rvs : List Rv} (h : VRr K B R H σ e vs rvs) : ∀ p ∈ vs.zip rvs, ∀ a, freshAt p.1 p.2 = some a → B.H0 a = none := by
  induction h with
  | nil => intro p hp; cases hp
  | cons h1 _ _ ih =>
    intro p hp a ha
    rcases List.mem_cons.mp hp with rfl | hp
    · exact (fresh_R h1 ha).2.2.2.2
    · exact ih p hp a ha
theorem VRr.unguard {K : Fg} {B : Bs} {R H : Hp} {σ : L2.St} {e : Ev} {a : Addr} {o : HO} (h0 : B.H0 a = none) {vs : List V} {rvs : List Rv} (h : VRr K (B.guard a o) R H σ e vs rvs) : VRr K B R H σ e vs rvs := by
  have z : ∀ b, (B.guard a o).H0 b = none → B.H0 b = none := fun b hb => by
    have hb : upd B.H0 a o b = none := hb
    by_cases ne : b = a
    · rw [ne, upd_same] at hb; cases hb
    · rw [upd_ne ne] at hb; exact hb
  induction h with
  | nil => exact .nil
  | @cons v vs rv rvs h1 h2 _ ih =>
    refine .cons ?_ h2 ih
    cases rv with
    | sh d => exact h1
    | sl d => exact h1
    | fl d => obtain ⟨b, vs, e1, e2, e3, e4, e5, e6⟩ := h1; exact ⟨b, vs, e1, e2, e3, e4, e5, z b e6⟩
    | fd d => obtain ⟨b, vs, e1, e2, e3, e4, e5, e6⟩ := h1; exact ⟨b, vs, e1, e2, e3, e4, e5, z b e6⟩
theorem afterR_seq {K : Fg} {B : Bs} {σ : L2.St} {R H R1 H1 : Hp} {e e1 : Ev} {r : Rs (List Rv)} {Q : List V → Hp → Prop} (s1 : Same R R1) (f1 : Frm σ e H H1) (t1 : Tr e e1) (h : AfterR K B W σ R H e r Q) : AfterR K B W σ R1 H1 e1 r Q := by
  cases r with
  | ex c => exact h
  | bad => exact h
  | ok b e2 => exact fun x R2 H2 s2 r2 f2 t2 v2 => h x R2 H2 (s1.trans s2) r2 (f1.trans t1 f2) (t1.trans t2) v2
/-- values made from the left, each keeping what it made -/
theorem par_pa : ∀ {es : List Expr} {fs : List (Ev → Rs Rv)}, DXs X W io es fs → PA X es (fun σ H Q => ∃ B : Bs, io = B.io.isSome ∧ tR X.K B W (evR fs) σ H Q)
  | _, _, .nil => pa_imp pa_nil fun σ H Q h => by
    obtain ⟨B, _, R, e, r, h⟩ := h
    exact h [] R H (Same.refl _) r .refl (.refl _) .nil
  | _, _, @DXs.cons _ _ _ a as f fs h1 hs h2 => by
    have ih := par_pa h2
    have hp : PE X a (fun σ H Q => ∃ B : Bs, io = B.io.isSome ∧ tX X.K B W f σ H Q) := ⟨fun pins s σ H Q I q => by
      obtain ⟨B, hb, q⟩ := q
      exact (h1 B hb).run pins s σ H Q I q⟩
    refine pa_imp (pa_cons hp ih (star_cons hs)) fun σ H Q h => ?_
    obtain ⟨B, hio, R, e, r, h⟩ := h
    have h : AfterR X.K B W σ R H e ((f e).bind fun rv e1 => match rv with
      | .sl _ => .bad
      | rv => (evR fs e1).bind fun rvs e2 => .ok (rv :: rvs) e2) Q := h
    refine ⟨B, hio, R, e, r, ?_⟩
    cases q : f e with
    | ex c => rw [q] at h; exact h
    | bad => rw [q] at h; exact h
    | ok rv e1 =>
      rw [q] at h
      intro v R1 H1 s1 r1 f1 t1 v1
      have h := afterR_seq s1 f1 t1 h
      simp only [Rs.bind] at h
      cases rv with
      | sl i => exact h.elim
      | sh d =>
        simp only at h
        refine ⟨B, hio, R1, e1, r1, ?_⟩
        cases q2 : evR fs e1 with
        | ex c => rw [q2] at h; exact h
        | bad => rw [q2] at h; exact h
        | ok rvs e2 =>
          rw [q2] at h
          exact fun vs R2 H2 s2 r2 f2 t2 v2 => h (v :: vs) R2 H2 s2 r2 f2 t2 (.cons (v1.mono s2) (fun _ z => nomatch z) v2)
      | fl ds =>
        simp only at h
        obtain ⟨ad, ws, rfl, g1, g2, g3, g4, g5⟩ := v1
        refine ⟨B.guard ad (.lst ws), hio, R1, e1, r1.guard g1 g2 g4, ?_⟩
        cases q2 : evR fs e1 with
        | ex c => rw [q2] at h; exact exq_guard g5 h
        | bad => rw [q2] at h; exact h
        | ok rvs e2 =>
          rw [q2] at h
          intro vs R2 H2 s2 r2 f2 t2 v2
          have g2' : H2 ad = some (.lst ws) := f2 _ _ g2 g4
          have hR2 : R2 ad = none := by
            cases z : R2 ad with
            | none => rfl
            | some o =>
              rcases r2.rn ad o z with y | y
              · have := r1.r0 ad o y
                rw [g1] at this; cases this
              · have y : upd B.H0 ad (.lst ws) ad = none := y
                rw [upd_same] at y; cases y
          refine h (.ref ad :: vs) R2 H2 s2 (r2.unguard g5) f2 t2 (.cons ⟨ad, ws, rfl, hR2, g2', g3.mono s2, fun z => g4 (t2.owns z), g5⟩ (fun b hb p hp hb2 => ?_) (v2.unguard g5))
          cases hb
          have y := freshs_R v2 p hp _ hb2
          have y : upd B.H0 ad (.lst ws) ad = none := y
          rw [upd_same] at y; cases y
      | fd ds =>
        simp only at h
        obtain ⟨ad, ws, rfl, g1, g2, g3, g4, g5⟩ := v1
        refine ⟨B.guard ad (.dK ws), hio, R1, e1, r1.guard g1 g2 g4, ?_⟩
        cases q2 : evR fs e1 with
        | ex c => rw [q2] at h; exact exq_guard g5 h
        | bad => rw [q2] at h; exact h
        | ok rvs e2 =>
          rw [q2] at h
          intro vs R2 H2 s2 r2 f2 t2 v2
          have g2' : H2 ad = some (.dK ws) := f2 _ _ g2 g4
          have hR2 : R2 ad = none := by
            cases z : R2 ad with
            | none => rfl
            | some o =>
              rcases r2.rn ad o z with y | y
              · have := r1.r0 ad o y
                rw [g1] at this; cases this
              · have y : upd B.H0 ad (.dK ws) ad = none := y
                rw [upd_same] at y; cases y
          refine h (.ref ad :: vs) R2 H2 s2 (r2.unguard g5) f2 t2 (.cons ⟨ad, ws, rfl, hR2, g2', g3.mono s2, fun z => g4 (t2.owns z), g5⟩ (fun b hb p hp hb2 => ?_) (v2.unguard g5))
          cases hb
          have y := freshs_R v2 p hp _ hb2
          have y : upd B.H0 ad (.dK ws) ad = none := y
          rw [upd_same] at y; cases y
/-- the names i take the values in order -/
def putNs (io : Bool) : List Nat → List Rv → Ev → Option Ev
  | [], [], e => some e
  | i :: is, rv :: rvs, e => (putN io i rv e).bind (putNs io is rvs)
  | _, _, _ => none
theorem putN_len {i : Nat} {rv : Rv} {e e2 : Ev} (h : putN io i rv e = some e2) : i < e.length ∧ (∃ s, e2 = e.set i s ∧ (s.own = true → ∀ v a, freshAt v rv = some a ∨ (∀ b, v ≠ .ref b) ∨ (∃ b, v = .ref b ∧ freshAt v rv = some b))) := by
  unfold putN at h
  split at h
  · cases h
  · rename_i hc
    have hc2 : i < e.length := by
      by_cases hz : i < e.length
      · exact hz
      · exact absurd (.inr hz) hc
    refine ⟨hc2, ?_⟩
    cases rv with
    | sh d => cases Option.some.inj h; exact ⟨_, rfl, fun z => nomatch z⟩
    | fl ds => cases Option.some.inj h; exact ⟨_, rfl, fun _ v a => by cases v <;> first | exact .inr (.inr ⟨_, rfl, rfl⟩) | exact .inr (.inl fun b z => nomatch z)⟩
    | fd ds => cases Option.some.inj h; exact ⟨_, rfl, fun _ v a => by cases v <;> first | exact .inr (.inr ⟨_, rfl, rfl⟩) | exact .inr (.inl fun b z => nomatch z)⟩
    | sl j => cases h
theorem putNs_ok {K : Fg} {B : Bs} {R H : Hp} (hio : io = B.io.isSome) : ∀ {is : List Nat} {vs : List V} {rvs : List Rv} {σ : L2.St} {e e2 : Ev}, Rel K B R σ H e → VRr K B R H σ e vs rvs → putNs io is rvs e = some e2 → Rel K B R (setAll is vs σ) H e2
  | [], _, _, σ, e, e2, r, .nil, h => by simp only [putNs, Option.some.injEq] at h; subst h; exact r
  | [], _, _, σ, e, e2, r, .cons _ _ _, h => by simp [putNs] at h
  | i :: is, _, _, σ, e, e2, r, .nil, h => by simp [putNs] at h
  | i :: is, _, _, σ, e, e2, r, @VRr.cons _ _ _ _ _ _ v vs rv rvs h1 h2 h3, h => by
    simp only [putNs] at h
    cases q : putN io i rv e with
    | none => rw [q] at h; cases h
    | some e1 =>
      rw [q] at h
      simp only [Option.bind_some] at h
      have r1 := putN_ok hio r h1 q
      obtain ⟨hi, s, he, hs⟩ := putN_len q
      have hσ : i < σ.length := by rw [← r.len]; exact hi
      show Rel K B R (setAll is vs (σ.set i (some v))) H e2
      refine putNs_ok hio r1 ?_ h
      have own1 : ∀ a, OwnsAt (σ.set i (some v)) e1 a → OwnsAt σ e a ∨ freshAt v rv = some a := fun a ⟨j, o1, o2⟩ => by
        rw [he, Ev.at_set' hi] at o1
        rw [nm_set hσ] at o2
        by_cases hj : j = i
        · rw [if_pos hj] at o1 o2
          cases o2
          rcases hs o1 (.ref a) a with z | z | ⟨b, z, y⟩
          · exact .inr z
          · exact absurd rfl (z a)
          · cases z; exact .inr y
        · rw [if_neg hj] at o1 o2; exact .inl ⟨j, o1, o2⟩
      have mv : ∀ {w : V} {rw' : Rv}, VR K B R H σ e w rw' → (∀ a, freshAt w rw' = some a → freshAt v rv ≠ some a) → (∀ j, rw' ≠ .sl j) → VR K B R H (σ.set i (some v)) e1 w rw' := fun {w rw'} g1 g2 g3 => by
        cases rw' with
        | sh d => exact g1
        | sl j => exact absurd rfl (g3 j)
        | fl d =>
          obtain ⟨b, ws, e1', e2', e3', e4', e5', e6'⟩ := g1
          refine ⟨b, ws, e1', e2', e3', e4', fun z => ?_, e6'⟩
          rcases own1 b z with y | y
          · exact e5' y
          · exact g2 b (by rw [e1']; rfl) y
        | fd d =>
          obtain ⟨b, ws, e1', e2', e3', e4', e5', e6'⟩ := g1
          refine ⟨b, ws, e1', e2', e3', e4', fun z => ?_, e6'⟩
          rcases own1 b z with y | y
          · exact e5' y
          · exact g2 b (by rw [e1']; rfl) y
      have h2' : ∀ p ∈ vs.zip rvs, ∀ a, freshAt p.1 p.2 = some a → freshAt v rv ≠ some a := fun p hp a ha z => h2 a z p hp ha
      have nsl : ∀ {is : List Nat} {rvs : List Rv} {e : Ev}, putNs io is rvs e = some e2 → ∀ rv ∈ rvs, ∀ j, rv ≠ .sl j := by
        intro is
        induction is with
        | nil => intro rvs e h rv hr; cases rvs with
                 | nil => cases hr
                 | cons _ _ => simp [putNs] at h
        | cons i is ih =>
          intro rvs e h rv hr
          cases rvs with
          | nil => cases hr
          | cons r0 rs =>
            simp only [putNs] at h
            cases q : putN io i r0 e with
            | none => rw [q] at h; cases h
            | some e1 =>
              rw [q] at h
              simp only [Option.bind_some] at h
              rcases List.mem_cons.mp hr with rfl | hr
              · intro j z
                rw [z] at q
                unfold putN at q
                split at q <;> cases q
              · exact ih h rv hr
      have nsl' := nsl h
      clear h2 h hs own1 q
      revert h2' nsl'
      clear nsl
      induction h3 with
      | nil => intro _ _; exact .nil
      | @cons v' vs' rv' rvs' g1 g2 g3 ih =>
        intro k1 k2
        exact .cons (mv g1 (k1 (v', rv') List.mem_cons_self) (k2 rv' List.mem_cons_self)) g2 (ih (fun p hp => k1 p (List.mem_cons_of_mem _ hp)) fun r hr => k2 r (List.mem_cons_of_mem _ hr))
def fPars (io : Bool) (is : List Nat) (fs : List (Ev → Rs Rv)) (e : Ev) : Fl := match evR fs e with
  | .ok rvs e1 => (match putNs io is rvs e1 with
    | some e2 => .nx e2
    | none => .bad)
  | .ex c => .ex c
  | .bad => .bad
theorem pars_of {B : Bs} {is : List Nat} {fs : List (Ev → Rs Rv)} {σ : L2.St} {H : Hp} {D : Ends} (hio : io = B.io.isSome) (h : tS X.K B W (fPars io is fs) D σ H) : tR X.K B W (evR fs) σ H fun vs H1 => ∃ rvs : List Rv, vs.length = rvs.length ∧ rvs.length = is.length ∧ D.nx (setAll is vs σ) H1 := by
  obtain ⟨R, e, r, h⟩ := h
  refine ⟨R, e, r, ?_⟩
  unfold fPars at h
  cases q : evR fs e with
  | ex c => rw [q] at h; exact h
  | bad => rw [q] at h; exact h
  | ok rvs e1 =>
    rw [q] at h
    intro vs R1 H1 s1 r1 f1 t1 v1
    simp only at h
    cases q2 : putNs io is rvs e1 with
    | none => rw [q2] at h; exact h.elim
    | some e2 =>
      rw [q2] at h
      refine ⟨rvs, ?_, ?_, h _ R1 H1 s1 (putNs_ok hio r1 v1 q2)⟩
      · clear q2 h q
        induction v1 with
        | nil => rfl
        | cons _ _ _ ih => simp [ih]
      · clear v1 h q r1 f1 t1
        revert e1
        have : ∀ {is : List Nat} {rvs : List Rv} {e e2 : Ev}, putNs io is rvs e = some e2 → rvs.length = is.length := by
          intro is
          induction is with
          | nil => intro rvs e e2 h; cases rvs with
                   | nil => rfl
                   | cons _ _ => simp [putNs] at h
          | cons i is ih =>
            intro rvs e e2 h
            cases rvs with
            | nil => simp [putNs] at h
            | cons r0 rs =>
              simp only [putNs] at h
              cases q : putN io i r0 e with
              | none => rw [q] at h; cases h
              | some e1 => rw [q] at h; simp only [Option.bind_some] at h; simp [ih h]
        intro e1 q2
        exact this q2
theorem pa_any {B : Bs} {es : List Expr} {fs : List (Ev → Rs Rv)} (hio : io = B.io.isSome) (h : DXs X W io es fs) : PA X es (tR X.K B W (evR fs)) := pa_imp (par_pa h) fun _ _ _ q => ⟨B, hio, q⟩
/-- a, b = e1, e2 -/
theorem ds_par2 {B : Bs} {i j : Nat} {x y : Str} {a b : Expr} {fa fb : Ev → Rs Rv} {px py pt pos : Pos} {kt k2 : Nat} {pt2 : Pos} (hio : io = B.io.isSome) (hc : X.calm = true) (hN : X.N.Nodup) (hi : X.N[i]? = some x) (hj : X.N[j]? = some y) (hij : i ≠ j)
    (hx : X.env.scope.names.lookup x = some .local) (hy : X.env.scope.names.lookup y = some .local) (h : DXs X W io [a, b] [fa, fb])
    (hw : swappedStores [.Tuple [.Name x px, .Name y py] kt pt] (.Tuple [a, b] k2 pt2) X.env = pure (some [x, y])) :
    DS X B W (.Assign [.Tuple [.Name x px, .Name y py] kt pt] (.Tuple [a, b] k2 pt2) pos) (fPars io [i, j] [fa, fb]) := by
  refine ps_imp (ps_par hc hN hi hj hij hx hy (pa_any (B := B) hio h) hw (by rfl)) fun D σ H h => ?_
  obtain ⟨R, e, r, h⟩ := pars_of hio h
  refine ⟨R, e, r, ?_⟩
  cases q : evR [fa, fb] e with
  | ex c => rw [q] at h; exact h
  | bad => rw [q] at h; exact h
  | ok rvs e1 =>
    rw [q] at h
    intro vs R1 H1 s1 r1 f1 t1 v1
    obtain ⟨rvs', l1, l2, hd⟩ := h vs R1 H1 s1 r1 f1 t1 v1
    match vs, l1.trans l2 with
    | [v, w], _ => exact ⟨v, w, rfl, hd⟩
/-- a, b, c = e1, e2, e3 -/
theorem ds_par3 {B : Bs} {i j l : Nat} {x y z : Str} {a b c : Expr} {fa fb fc : Ev → Rs Rv} {px py pz pt pos : Pos} {kt k2 : Nat} {pt2 : Pos} (hio : io = B.io.isSome) (hc : X.calm = true) (hN : X.N.Nodup) (hi : X.N[i]? = some x) (hj : X.N[j]? = some y) (hl : X.N[l]? = some z) (hij : i ≠ j) (hil : i ≠ l) (hjl : j ≠ l)
    (hx : X.env.scope.names.lookup x = some .local) (hy : X.env.scope.names.lookup y = some .local) (hz : X.env.scope.names.lookup z = some .local) (h : DXs X W io [a, b, c] [fa, fb, fc])
    (hw : swappedStores [.Tuple [.Name x px, .Name y py, .Name z pz] kt pt] (.Tuple [a, b, c] k2 pt2) X.env = pure (some [x, y, z])) :
    DS X B W (.Assign [.Tuple [.Name x px, .Name y py, .Name z pz] kt pt] (.Tuple [a, b, c] k2 pt2) pos) (fPars io [i, j, l] [fa, fb, fc]) := by
  refine ps_imp (ps_par3 hc hN hi hj hl hij hil hjl hx hy hz (pa_any (B := B) hio h) hw (by rfl)) fun D σ H h => ?_
  obtain ⟨R, e, r, h⟩ := pars_of hio h
  refine ⟨R, e, r, ?_⟩
  cases q : evR [fa, fb, fc] e with
  | ex c => rw [q] at h; exact h
  | bad => rw [q] at h; exact h
  | ok rvs e1 =>
    rw [q] at h
    intro vs R1 H1 s1 r1 f1 t1 v1
    obtain ⟨rvs', l1, l2, hd⟩ := h vs R1 H1 s1 r1 f1 t1 v1
    match vs, l1.trans l2 with
    | [u, v, w], _ => exact ⟨u, v, w, rfl, hd⟩
end
end PV
namespace PV
open PySem PySem.Spec PyProof.Rows L2
open AutoSeq1 (wpAny_loadPart')
theorem enum_made (c : Addr) (vals : Array Value) :
    Meets (Builtin.«enumerate.__new__» ⟨[.type "enumerate", .ref c], []⟩) (fun _ R s => s.heap.IsTuple c vals ∧
      R (.ok (.ret (.ref (s.heap.push { cls := .type "tuple_iterator", data := .fields #[.ref c, .int 0 0] }).objs.size)))
        { s with heap := (s.heap.push { cls := .type "tuple_iterator", data := .fields #[.ref c, .int 0 0] }).push { cls := .type "enumerate", data := .fields #[.none, .bool false, .ref s.heap.objs.size, rawInt 0, .none, .none] } }) :=
  .of_wp fun prog w A R s h => by
    obtain ⟨hp, gl, ds, tk, os⟩ := s
    obtain ⟨hT, h⟩ := h
    have below := sub_enumerate
    have begin_ : ∀ {A' : Around} {E : Value → Shared → Prop} {Q : Value → Shared → Prop}, Q (.ref hp.objs.size) ⟨(hp.push { cls := .type "tuple_iterator", data := .fields #[.ref c, .int 0 0] }), gl, ds, tk, os⟩ → wpAny (model prog w) A' (pyIter (.ref c)) Q E ⟨hp, gl, ds, tk, os⟩ :=
      fun q => (begins_tuple c vals).iter prog w _ _ ⟨hp, gl, ds, tk, os⟩ _ hT q
    wp_walk using begin_
    refine wpAny_stack_any fun st => wpAny_pure ?_
    split
    · rename_i cl _ _ _ _ _
      cases (cl == Value.type "enumerate")
      · wp_walk using begin_
        exact ⟨_, rfl, h⟩
      · wp_walk using begin_
        exact ⟨_, rfl, h⟩
    · wp_walk using begin_
      exact ⟨_, rfl, h⟩
section
variable {prog : Program} {w : World} {A : Around} {E : Value → Shared → Prop} {s : Shared}
theorem enum_call {c : Addr} {vals : Array Value} {Q : Value → Shared → Prop} (hT : s.heap.IsTuple c vals)
    (h : ∀ hp, IsEnum hp (s.heap.objs.size + 1) s.heap.objs.size 0 .none → hp.IsTupleIter s.heap.objs.size c 0 → (∀ b o, s.heap.get? b = some o → hp.get? b = some o) → Q (.ref (s.heap.objs.size + 1)) { s with heap := hp }) :
    wpAny (model prog w) A (call (.type "enumerate") [.ref c]) Q E s := by
  refine callType_new F.called_enumerate (by decide) (F.typeCall_enumerate_1 _) (F.newCall_enumerate_1 _) (fun obj => F.args_object_init_2 obj _) F.entry_enumerate_new (enum_made c vals) ⟨hT, ?_⟩
  have sz : (s.heap.push { cls := .type "tuple_iterator", data := .fields #[.ref c, .int 0 0] }).objs.size = s.heap.objs.size + 1 := Heap.size_push ..
  have is_ : IsEnum ((s.heap.push { cls := .type "tuple_iterator", data := .fields #[.ref c, .int 0 0] }).push { cls := .type "enumerate", data := .fields #[.none, .bool false, .ref s.heap.objs.size, rawInt 0, .none, .none] }) (s.heap.objs.size + 1) s.heap.objs.size 0 .none := by
    have q := Heap.get?_push_size (s.heap.push { cls := .type "tuple_iterator", data := .fields #[.ref c, .int 0 0] }) (o := { cls := .type "enumerate", data := .fields #[.none, .bool false, .ref s.heap.objs.size, rawInt 0, .none, .none] }) rfl
    rw [sz] at q; exact q
  show _ ∧ _
  rw [sz]
  exact ⟨⟨_, is_, rfl⟩, h _ is_ ⟨_, Heap.get?_push_of_some _ (Heap.get?_push_size _ rfl), rfl, rfl⟩ fun b o y => Heap.get?_push_of_some _ (Heap.get?_push_of_some _ y)⟩
end
theorem wpAny_pyNext_enum_endT {prog : Program} {w : World} {A : Around} {E : Value → Shared → Prop} {s : Shared} {e it c : Addr} {i : Nat} {k : Int} {vals : Array Value} {old : Value} {Q : Option Value → Shared → Prop} (hh : A.handled = none)
    (en : IsEnum s.heap e it k old) (ti : s.heap.IsTupleIter it c i) (tp : s.heap.IsTuple c vals) (hi : vals.size ≤ i) (hQ : ∀ hp, Heap.ExtBut it s.heap hp → Q none { s with heap := hp }) : wpAny (model prog w) A (pyNext (.ref e)) Q E s := by
  have ty : s.TypeIs (.ref e) "enumerate" := ⟨_, en, rfl⟩
  unfold pyNext
  refine wpAny_bind (wpAny_attempt (wpAny_callSpecial?_slot (name := Str.ofString "__next__") ty F.slot_enumerate_next (wpAny_call_entry F.slot_enumerate_next ty F.entry_enumerate_next ?_ (F.args_enumerate_next_1 _))))
  show wpAny _ _ (field (.ref e) 2 >>= _) _ _ _
  refine wpAny_bind (wpAny_field en rfl (x := .ref it) rfl ?_)
  refine wpAny_bind (wpAny_nextOf_tuple_end (show A.in1.handled = none from hh) ti tp (Array.getElem?_eq_none hi) fun hp ex ext cl => ?_)
  obtain ⟨o, ho, hc⟩ := cl
  exact wpAny_bind (wpAny_isInstance (T := "StopIteration") (b := true) ⟨o, ho, hc⟩ isSubtype_stop (wpAny_pure (hQ _ ext)))
/-- enumerate of a tuple, as it is walked -/
def IteT (K : Fg) (a : Addr) : It :=
  ⟨fun i H => ∃ (xs : List V) (x : V), SqT K H a xs ∧ xs[i]? = some x, fun i H v H' => ∃ T x, v = .ref T ∧ H T = none ∧ H' = upd H T (.tup [.int (i : Nat), x]) ∧ ∀ xs, SqT K H a xs → xs[i]? = some x,
    fun i H => ∃ xs : List V, SqT K H a xs ∧ xs.length ≤ i⟩
theorem apart_of {h : Heap} {a b : Addr} {oa ob : Obj} (ha : h.get? a = some oa) (hb : h.get? b = some ob) (hc : oa.cls ≠ ob.cls) : a ≠ b := fun z => by
  subst z
  rw [ha] at hb
  cases hb
  exact hc rfl
theorem turn_enumT {P : Program} {w : World} {K : Fg} {elts : List Expr} {kk : Nat} {tpos : Pos} (c e it : Addr) :
    Turn P w K (.Tuple elts kk tpos) (IteT K c) [e, it] e (fun i h => (∃ old, IsEnum h e it ((i : Nat) : Int) old) ∧ h.IsTupleIter it c i ∧ e ≠ it) where
  mem := List.mem_cons_self
  obj := fun i h st b hb => by
    obtain ⟨⟨old, en⟩, ⟨ob, ho, _, hdt⟩, _⟩ := st
    rcases List.mem_cons.mp hb with z | z
    · subst z; exact ⟨_, en, fun v q => nomatch q⟩
    · rw [List.mem_singleton] at z; subst z
      exact ⟨ob, ho, fun v q => by rw [hdt] at q; cases q⟩
  keep := fun i h h' st k => ⟨st.1.imp fun old en => k e List.mem_cons_self _ en, st.2.1.at fun o q => k it (List.mem_cons_of_mem _ List.mem_cons_self) o q, st.2.2⟩
  item := by
    intro X hP hw hK calm i pins s σ H E I fresh st go
    subst hP hw hK
    obtain ⟨⟨old, en⟩, ti, hne⟩ := st
    obtain ⟨xs, x, hq, hx⟩ := go
    obtain ⟨vals, rel, tp, _⟩ := I.tuple hq
    obtain ⟨u, hu, ru⟩ := rel.get hx
    have tp : s.heap.IsTuple c vals.toArray := tp
    have c_it : c ≠ it := by
      obtain ⟨o1, h1, h2, _⟩ := id tp
      obtain ⟨o2, h3, h4, _⟩ := id ti
      exact apart_of h1 h3 (by rw [h2, h4]; decide)
    have e_c : e ≠ c := by
      obtain ⟨o1, h1, h2, _⟩ := id tp
      have en' : s.heap.get? e = some _ := en
      exact apart_of en' h1 (by rw [h2]; show Value.type "enumerate" ≠ Value.type "tuple"; decide)
    have eb : e < s.heap.objs.size := Heap.lt_size en
    have ib : it < s.heap.objs.size := by obtain ⟨_, q, _⟩ := ti; exact Heap.lt_size q
    have hl : i < vals.toArray.size := by
      have := (List.getElem?_eq_some_iff.mp hu).1
      simpa using this
    refine wpAny_pyNext_enum_itemD (Draws.tuple (show X.A.in1.handled = none from I.ok.hd calm) it c c_it vals.toArray) en ⟨ti, tp⟩ hl hne (by
      intro z
      rcases List.mem_cons.mp z with z | z
      · exact hne z
      · exact e_c (List.mem_singleton.mp z)) fun y hp tk hy out st2 made _ old_ => ?_
    have ey : y = u := by
      have hu2 : vals.toArray[i]? = some u := by simpa using hu
      rw [hu2] at hy; cases hy; rfl
    subst ey
    refine ⟨_, rfl, wpAny_letOwnedTupleGo_enum (s := { s with heap := hp, toks := tk + 1 }) out fun hp2 en2 sb => ?_⟩
    have made2 : hp2.get? s.heap.objs.size = some { cls := .type "tuple", data := .seq #[.int i tk, y] } := (sb.2 _ (Nat.ne_of_gt eb)).trans made
    have new : ObjOk X.prog X.w (upd H s.heap.objs.size (.tup [.int (i : Nat), x])) hp2 s.heap.objs.size (.tup [.int (i : Nat), x]) :=
      ⟨by show 2 ≤ sizeLine; decide, [.int i tk, y], .cons ⟨_, rfl⟩ (.cons ru .nil), ⟨_, made2, rfl, _, rfl⟩⟩
    have J : Inv X pins σ (upd H s.heap.objs.size (.tup [.int (i : Nat), x])) { s with heap := hp2, toks := tk + 1 } :=
      I.turnedNew (ch := [e, it]) (fun b ob hb q => (sb.2 b (fun z => hb (by simp [z]))).trans (old_ b ob (fun z => hb (by simp [z])) (fun z => hb (by simp [z])) q)) fresh (Nat.le_refl _) new
    refine ⟨.ref s.heap.objs.size, _, J, rfl, ⟨_, x, rfl, I.hok.fresh (Nat.le_refl _), rfl, fun ys hy => by rw [I.tuple_inj hy hq]; exact hx⟩, ⟨⟨y, ?_⟩, st2.1.at fun o q => (sb.2 it (Ne.symm hne)).trans q, hne⟩, fun b hb => ?_⟩
    · have e1 : ((i + 1 : Nat) : Int) = (i : Int) + 1 := by omega
      rw [e1]; exact en2
    · have hb' : b < s.heap.objs.size := by
        rcases List.mem_cons.mp hb with z | z
        · rw [z]; exact eb
        · rw [List.mem_singleton.mp z]; exact ib
      rw [upd_ne (Nat.ne_of_lt hb')]
      exact (fresh b hb).1
  done := by
    intro X hP hw hK calm i pins s σ H E I fresh st stop
    subst hP hw hK
    obtain ⟨⟨old, en⟩, ti, hne⟩ := st
    obtain ⟨xs, hq, hx⟩ := stop
    obtain ⟨vals, rel, tp, _⟩ := I.tuple hq
    have tp : s.heap.IsTuple c vals.toArray := tp
    obtain ⟨f0, f1, f2, f3, f4, f5⟩ := fresh it (List.mem_cons_of_mem _ List.mem_cons_self)
    have hl := rel.length
    exact wpAny_pyNext_enum_endT (I.ok.hd calm) en ti tp (by simp; omega) fun hp eb => ⟨rfl, I.turned (t' := s.toks) (fun b o hb q => eb b o hb q) f0 f1 f3 f4 f5⟩
  self := fun A i s Q E st h => let ⟨⟨_, en⟩, _⟩ := st; wpAny_pyIter_enum en h
end PV
namespace PV
open PySem PySem.Spec PyProof.Rows L2
open AutoSeq1 (wpAny_loadPart')
/-- the zip at z, with the pair v that it has out, f: told that it is out -/
abbrev ZipAt (g : Heap) (z p q : Addr) (v : Value) (f : Bool) : Prop :=
  g.get? z = some { cls := .type "zip", dict := none, data := .fields #[v, .bool f, .bool false, .ref p, .ref q], slots := #[] }
def HasOut (v : Value) : Prop := v = .none ∨ ∃ T : Addr, v = rawInt T
/-- the zip, its iterators and its own pair -/
structure ZipSt (g : Heap) (z p q i1 i2 c d : Addr) (k : Nat) : Prop where
  zip : ∃ v f, ZipAt g z p q v f ∧ HasOut v
  its : IsPair g p (.ref i1) (.ref i2)
  own : ∃ a b, IsPair g q a b
  one : g.IsTupleIter i1 c k
  two : g.IsTupleIter i2 d k
section
variable {prog : Program} {w : World} {A : Around} {E : Value → Shared → Prop} {s : Shared}
theorem alive_any {a : Addr} {Q : Option Obj → Shared → Prop} (h : Q (s.heap.get? a) s) : wpAny (model prog w) A (loadIfAlive a) Q E s := fun _ _ _ => h
theorem pair_free {z p q : Addr} {v : Value} {f : Bool} {Q : Bool → Shared → Prop} (zp : ZipAt s.heap z p q v f) (hv : HasOut v) (yes : Q true s)
    (no : ∀ g, ZipAt g z p q v true → Heap.SameBut z s.heap g → Q false { s with heap := g }) : wpAny (model prog w) A (Builtin.SmallTypes.ownedTupleIsFree (.ref z)) Q E s := by
  unfold Builtin.SmallTypes.ownedTupleIsFree
  refine wpAny_bind (wpAny_field zp rfl (x := v) rfl ?_)
  rcases hv with rfl | ⟨T, rfl⟩
  · exact wpAny_pure yes
  · show wpAny _ _ (loadIfAlive ((T : Int).toNat) >>= _) _ _ _
    refine wpAny_bind (alive_any ?_)
    cases hT : s.heap.get? ((T : Int).toNat) with
    | none =>
      simp only [Option.isNone_none, if_true]
      exact wpAny_pure yes
    | some ob =>
      simp only [Option.isNone_some, Bool.false_eq_true, if_false]
      refine wpAny_bind (wpAny_field zp rfl (x := .bool f) rfl ?_)
      cases f with
      | true =>
        rw [if_neg (show ¬ ((Value.bool true != Value.bool true) = true) by decide)]
        exact wpAny_pure (no s.heap zp (Heap.SameBut.refl _ _))
      | false =>
        rw [if_pos (show (Value.bool false != Value.bool true) = true by rfl)]
        exact wpAny_bind (wpAny_setField_rec zp (by simp) fun g zg sg => wpAny_pure (no g zg sg))
theorem zip_step {z p q i1 i2 c d : Addr} {k : Nat} {xs ys : Array Value} {x y : Value} {Q : Value → Shared → Prop} (D : ZipApart z p q i1 i2 c d)
    (st : ZipSt s.heap z p q i1 i2 c d k) (tc : s.heap.IsTuple c xs) (td : s.heap.IsTuple d ys) (hx : xs[k]? = some x) (hy : ys[k]? = some y)
    (fin : ∀ g, ZipSt g z p q i1 i2 c d (k + 1) → IsPair g s.heap.objs.size x y → g.objs.size = s.heap.objs.size + 1 →
      (∀ b o, b ≠ z → b ≠ q → b ≠ i1 → b ≠ i2 → s.heap.get? b = some o → g.get? b = some o) → Q (.ref s.heap.objs.size) { s with heap := g }) :
    wpAny (model prog w) A (Builtin.«zip.__next__» ⟨[.ref z], []⟩) (fun r s' => ∃ v, r = .done (.ret v) ∧ Q v s') E s := by
  obtain ⟨⟨v, f, zp, hv⟩, hp, ⟨a, b, hq⟩, one, two⟩ := st
  show wpAny _ _ (field (.ref z) 2 >>= _) _ _ _
  refine wpAny_bind (wpAny_field zp rfl (x := .bool false) rfl ?_)
  show wpAny _ _ (field (.ref z) 3 >>= _) _ _ _
  refine wpAny_bind (wpAny_field zp rfl (x := .ref p) rfl ?_)
  refine wpAny_bind (wpAny_seqItems hp rfl ?_)
  show wpAny _ _ (Builtin.SmallTypes.ownedTupleIsFree (.ref z) >>= _) _ _ _
  refine wpAny_bind (pair_free zp hv ?_ fun g1 z1 m1 => ?_)
  · simp only [if_true]
    refine wpAny_bind (wpAny_rule ?_)
    refine wpAny_bind (wpAny_field zp rfl (x := .ref q) rfl ?_)
    refine wpAny_bind (wpAny_setField_rec zp (by simp) fun g1 z1 m1 => ?_)
    replace z1 : ZipAt g1 z p q .ellipsis f := z1
    refine wpAny_bind ?_
    simp only [List.zipIdx_cons, List.zipIdx_nil, List.forIn_cons, List.forIn_nil]
    refine wpAny_bind (wpAny_bind (wpAny_onRaise ?_))
    show wpAny _ _ (Builtin.SmallTypes.nextOf (.ref i1) >>= _) _ _ _
    refine wpAny_bind (wpAny_nextOf_tuple_item (one.extBut m1.extBut D.i1z) (tc.extBut m1.extBut D.l1z) hx fun g2 one2 m2 => wpAny_pure ?_)
    have q2 : IsPair g2 q a b := m2.extBut _ _ D.TOi1 (m1.extBut _ _ D.TOz hq)
    refine wpAny_bind (wpAny_seqItems q2 rfl ?_)
    refine wpAny_bind (wpAny_updateSeq_pair q2 fun g3 q3 m3 => ?_)
    replace q3 : IsPair g3 q x b := q3
    refine wpAny_bind (wpAny_letGo (wpAny_pure ?_))
    refine wpAny_bind (wpAny_bind (wpAny_onRaise ?_))
    show wpAny _ _ (Builtin.SmallTypes.nextOf (.ref i2) >>= _) _ _ _
    refine wpAny_bind (wpAny_nextOf_tuple_item (((two.extBut m1.extBut D.i2z).extBut m2.extBut D.i12.symm).extBut m3.extBut D.TOi2.symm)
      (((td.extBut m1.extBut D.l2z).extBut m2.extBut D.l2i1).extBut m3.extBut D.l2TO) hy fun g4 two4 m4 => wpAny_pure ?_)
    have q4 : IsPair g4 q x b := m4.extBut _ _ D.TOi2 q3
    refine wpAny_bind (wpAny_seqItems q4 rfl ?_)
    refine wpAny_bind (wpAny_updateSeq_pair q4 fun g5 q5 m5 => ?_)
    replace q5 : IsPair g5 q x y := q5
    refine wpAny_bind (wpAny_letGo (wpAny_pure (wpAny_pure ?_)))
    refine wpAny_bind (wpAny_seqItems q5 rfl ?_)
    refine wpAny_bind (wpAny_newTuple ?_)
    have sz : g5.objs.size = s.heap.objs.size := by rw [m5.1, m4.1, m3.1, m2.1, m1.1]
    have z5 : ZipAt g5 z p q .ellipsis f := m5.extBut _ _ D.TOz.symm (m4.extBut _ _ D.i2z.symm (m3.extBut _ _ D.TOz.symm (m2.extBut _ _ D.i1z.symm z1)))
    have old5 : ∀ b o, b ≠ z → b ≠ q → b ≠ i1 → b ≠ i2 → s.heap.get? b = some o → g5.get? b = some o := fun b o n1 n2 n3 n4 h =>
      m5.extBut _ _ n2 (m4.extBut _ _ n4 (m3.extBut _ _ n2 (m2.extBut _ _ n3 (m1.extBut _ _ n1 h))))
    have one5 : g5.IsTupleIter i1 c (k + 1) := ((one2.extBut m3.extBut D.TOi1.symm).extBut m4.extBut D.i12).extBut m5.extBut D.TOi1.symm
    have two5 : g5.IsTupleIter i2 d (k + 1) := two4.extBut m5.extBut D.TOi2.symm
    have zb : z < g5.objs.size := Heap.lt_size z5
    show wpAny _ _ (Builtin.SmallTypes.ownedTupleHandOut (.ref z) (.ref g5.objs.size) >>= _) _ _ _
    refine wpAny_bind ?_
    unfold Builtin.SmallTypes.ownedTupleHandOut
    have z6 : ZipAt (g5.push { cls := .type "tuple", data := .seq #[x, y] }) z p q .ellipsis f := Heap.get?_push_of_some _ z5
    refine wpAny_bind (wpAny_setField_rec z6 (by simp) fun g7 z7 m7 => ?_)
    replace z7 : ZipAt g7 z p q (rawInt g5.objs.size) f := z7
    refine wpAny_setField_rec z7 (by simp) fun g8 z8 m8 => ?_
    replace z8 : ZipAt g8 z p q (rawInt g5.objs.size) false := z8
    have up : ∀ b o, b ≠ z → g5.get? b = some o → g8.get? b = some o := fun b o n1 h => m8.extBut _ _ n1 (m7.extBut _ _ n1 (Heap.get?_push_of_some _ h))
    have made : IsPair g8 g5.objs.size x y := m8.extBut _ _ (Nat.ne_of_gt zb) (m7.extBut _ _ (Nat.ne_of_gt zb) (Heap.get?_push_size _ rfl))
    have sz8 : g8.objs.size = g5.objs.size + 1 := by rw [m8.1, m7.1, Heap.size_push]
    refine wpAny_pure ⟨_, rfl, ?_⟩
    show Q (.ref g5.objs.size) _
    rw [sz] at made sz8 ⊢
    exact fin g8 ⟨⟨_, _, z8, .inr ⟨_, rfl⟩⟩, up _ _ D.TIz (old5 _ _ D.TIz D.TITO D.TIi1 D.TIi2 hp), ⟨_, _, up _ _ D.TOz q5⟩, one5.at fun o h => up _ o D.i1z h, two5.at fun o h => up _ o D.i2z h⟩ made sz8 fun b o n1 n2 n3 n4 h => up b o n1 (old5 b o n1 n2 n3 n4 h)
  · simp only [Bool.false_eq_true, if_false]
    refine wpAny_bind ?_
    rw [← Array.forIn_toList]
    simp only [List.forIn_cons, List.forIn_nil]
    refine wpAny_bind (wpAny_bind (wpAny_holding ?_))
    show wpAny _ _ (Builtin.SmallTypes.nextOf (.ref i1) >>= _) _ _ _
    refine wpAny_bind (wpAny_nextOf_tuple_item (s := { s with heap := g1 }) (one.extBut m1.extBut D.i1z) (tc.extBut m1.extBut D.l1z) hx fun g2 one2 m2 => wpAny_pure ?_)
    refine wpAny_pure ?_
    refine wpAny_bind (wpAny_bind (wpAny_holding ?_))
    show wpAny _ _ (Builtin.SmallTypes.nextOf (.ref i2) >>= _) _ _ _
    refine wpAny_bind (wpAny_nextOf_tuple_item (s := { s with heap := g2 }) ((two.extBut m1.extBut D.i2z).extBut m2.extBut D.i12.symm) ((td.extBut m1.extBut D.l2z).extBut m2.extBut D.l2i1) hy fun g3 two3 m3 => wpAny_pure ?_)
    refine wpAny_pure (wpAny_pure ?_)
    show wpAny _ _ (newTuple [x, y] >>= _) _ _ _
    refine wpAny_bind (wpAny_newTuple ?_)
    have sz : g3.objs.size = s.heap.objs.size := by rw [m3.1, m2.1, m1.1]
    have old3 : ∀ b o, b ≠ z → b ≠ i1 → b ≠ i2 → s.heap.get? b = some o → g3.get? b = some o := fun b o n1 n2 n3 h => m3.extBut _ _ n3 (m2.extBut _ _ n2 (m1.extBut _ _ n1 h))
    have z3 : ZipAt g3 z p q v true := m3.extBut _ _ D.i2z.symm (m2.extBut _ _ D.i1z.symm z1)
    have one3 : g3.IsTupleIter i1 c (k + 1) := one2.extBut m3.extBut D.i12
    refine wpAny_pure ⟨_, rfl, ?_⟩
    show Q (.ref g3.objs.size) _
    have made : IsPair (g3.push { cls := .type "tuple", data := .seq #[x, y] }) g3.objs.size x y := Heap.get?_push_size _ rfl
    have sz4 : (g3.push { cls := .type "tuple", data := .seq #[x, y] }).objs.size = g3.objs.size + 1 := Heap.size_push ..
    rw [sz] at made sz4 ⊢
    exact fin _ ⟨⟨_, _, Heap.get?_push_of_some _ z3, hv⟩, Heap.get?_push_of_some _ (old3 _ _ D.TIz D.TIi1 D.TIi2 hp), ⟨_, _, Heap.get?_push_of_some _ (old3 _ _ D.TOz D.TOi1 D.TOi2 hq)⟩, one3.at fun o h => Heap.get?_push_of_some _ h, two3.at fun o h => Heap.get?_push_of_some _ h⟩ made sz4
      fun b o n1 n2 n3 n4 h => Heap.get?_push_of_some _ (old3 b o n1 n3 n4 h)
theorem zip_stop {z p q i1 i2 c d : Addr} {k : Nat} {xs ys : Array Value} {Q : Fin → Shared → Prop} (hh : A.handled = none) (D : ZipApart z p q i1 i2 c d)
    (st : ZipSt s.heap z p q i1 i2 c d k) (tc : s.heap.IsTuple c xs) (td : s.heap.IsTuple d ys) (stop : xs[k]? = none ∨ ys[k]? = none)
    (fin : ∀ g ex, (∀ b o, b ≠ z → b ≠ q → b ≠ i1 → b ≠ i2 → s.heap.get? b = some o → g.get? b = some o) → (∃ o, g.get? ex = some o ∧ o.cls = .type "StopIteration") → E (.ref ex) { s with heap := g }) :
    wpAny (model prog w) A (Builtin.«zip.__next__» ⟨[.ref z], []⟩) Q E s := by
  obtain ⟨⟨v, f, zp, hv⟩, hp, ⟨a, b, hq⟩, one, two⟩ := st
  show wpAny _ _ (field (.ref z) 2 >>= _) _ _ _
  refine wpAny_bind (wpAny_field zp rfl (x := .bool false) rfl ?_)
  show wpAny _ _ (field (.ref z) 3 >>= _) _ _ _
  refine wpAny_bind (wpAny_field zp rfl (x := .ref p) rfl ?_)
  refine wpAny_bind (wpAny_seqItems hp rfl ?_)
  show wpAny _ _ (Builtin.SmallTypes.ownedTupleIsFree (.ref z) >>= _) _ _ _
  refine wpAny_bind (pair_free zp hv ?_ fun g1 z1 m1 => ?_)
  · simp only [if_true]
    refine wpAny_bind (wpAny_rule ?_)
    refine wpAny_bind (wpAny_field zp rfl (x := .ref q) rfl ?_)
    refine wpAny_bind (wpAny_setField_rec zp (by simp) fun g1 z1 m1 => ?_)
    replace z1 : ZipAt g1 z p q .ellipsis f := z1
    refine wpAny_bind ?_
    simp only [List.zipIdx_cons, List.zipIdx_nil, List.forIn_cons, List.forIn_nil]
    refine wpAny_bind (wpAny_bind (wpAny_onRaise ?_))
    show wpAny _ _ (Builtin.SmallTypes.nextOf (.ref i1) >>= _) _ _ _
    cases hx : xs[k]? with
    | none =>
      refine wpAny_bind (wpAny_nextOf_tuple_end hh (one.extBut m1.extBut D.i1z) (tc.extBut m1.extBut D.l1z) hx fun g2 ex m2 he => ?_)
      obtain ⟨oe, h1, h2⟩ := he
      have z2 : ZipAt g2 z p q .ellipsis f := m2 _ _ D.i1z.symm z1
      have ne : ex ≠ z := fun e => by subst e; rw [z2] at h1; cases h1; simp at h2
      refine wpAny_setField_rec z2 (by simp) fun g3 _ m3 => fin g3 ex (fun b o n1 _ n3 _ h => m3.extBut _ _ n1 (m2 _ _ n3 (m1.extBut _ _ n1 h))) ⟨oe, m3.extBut _ _ ne h1, h2⟩
    | some x =>
      have hy : ys[k]? = none := by rcases stop with h | h; rw [hx] at h; cases h; exact h
      refine wpAny_bind (wpAny_nextOf_tuple_item (one.extBut m1.extBut D.i1z) (tc.extBut m1.extBut D.l1z) hx fun g2 one2 m2 => wpAny_pure ?_)
      have q2 : IsPair g2 q a b := m2.extBut _ _ D.TOi1 (m1.extBut _ _ D.TOz hq)
      refine wpAny_bind (wpAny_seqItems q2 rfl ?_)
      refine wpAny_bind (wpAny_updateSeq_pair q2 fun g3 q3 m3 => ?_)
      refine wpAny_bind (wpAny_letGo (wpAny_pure ?_))
      refine wpAny_bind (wpAny_bind (wpAny_onRaise ?_))
      show wpAny _ _ (Builtin.SmallTypes.nextOf (.ref i2) >>= _) _ _ _
      refine wpAny_bind (wpAny_nextOf_tuple_end hh (((two.extBut m1.extBut D.i2z).extBut m2.extBut D.i12.symm).extBut m3.extBut D.TOi2.symm)
        (((td.extBut m1.extBut D.l2z).extBut m2.extBut D.l2i1).extBut m3.extBut D.l2TO) hy fun g4 ex m4 he => ?_)
      obtain ⟨oe, h1, h2⟩ := he
      have z4 : ZipAt g4 z p q .ellipsis f := m4 _ _ D.i2z.symm (m3.extBut _ _ D.TOz.symm (m2.extBut _ _ D.i1z.symm z1))
      have ne : ex ≠ z := fun e => by subst e; rw [z4] at h1; cases h1; simp at h2
      refine wpAny_setField_rec z4 (by simp) fun g5 _ m5 => fin g5 ex (fun b o n1 n2 n3 n4 h => m5.extBut _ _ n1 (m4 _ _ n4 (m3.extBut _ _ n2 (m2.extBut _ _ n3 (m1.extBut _ _ n1 h))))) ⟨oe, m5.extBut _ _ ne h1, h2⟩
  · simp only [Bool.false_eq_true, if_false]
    refine wpAny_bind ?_
    rw [← Array.forIn_toList]
    simp only [List.forIn_cons, List.forIn_nil]
    refine wpAny_bind (wpAny_bind (wpAny_holding ?_))
    show wpAny _ _ (Builtin.SmallTypes.nextOf (.ref i1) >>= _) _ _ _
    cases hx : xs[k]? with
    | none =>
      refine wpAny_bind (wpAny_nextOf_tuple_end (s := { s with heap := g1 }) hh (one.extBut m1.extBut D.i1z) (tc.extBut m1.extBut D.l1z) hx fun g2 ex m2 he => ?_)
      exact fin g2 ex (fun b o n1 n2 n3 n4 h => m2 _ _ n3 (m1.extBut _ _ n1 h)) he
    | some x =>
      have hy : ys[k]? = none := by rcases stop with h | h; rw [hx] at h; cases h; exact h
      refine wpAny_bind (wpAny_nextOf_tuple_item (s := { s with heap := g1 }) (one.extBut m1.extBut D.i1z) (tc.extBut m1.extBut D.l1z) hx fun g2 one2 m2 => wpAny_pure ?_)
      refine wpAny_pure ?_
      refine wpAny_bind (wpAny_bind (wpAny_holding ?_))
      show wpAny _ _ (Builtin.SmallTypes.nextOf (.ref i2) >>= _) _ _ _
      refine wpAny_bind (wpAny_nextOf_tuple_end (s := { s with heap := g2 }) hh ((two.extBut m1.extBut D.i2z).extBut m2.extBut D.i12.symm) ((td.extBut m1.extBut D.l2z).extBut m2.extBut D.l2i1) hy fun g3 ex m3 he => ?_)
      exact fin g3 ex (fun b o n1 n2 n3 n4 h => m3 _ _ n4 (m2.extBut _ _ n3 (m1.extBut _ _ n1 h))) he
theorem zip_draw {z p q i1 i2 c d : Addr} {k : Nat} {xs ys : Array Value} {x y : Value} {Q : Value → Shared → Prop} (D : ZipApart z p q i1 i2 c d)
    (st : ZipSt s.heap z p q i1 i2 c d k) (tc : s.heap.IsTuple c xs) (td : s.heap.IsTuple d ys) (hx : xs[k]? = some x) (hy : ys[k]? = some y)
    (fin : ∀ g, ZipSt g z p q i1 i2 c d (k + 1) → IsPair g s.heap.objs.size x y → g.objs.size = s.heap.objs.size + 1 →
      (∀ b o, b ≠ z → b ≠ q → b ≠ i1 → b ≠ i2 → s.heap.get? b = some o → g.get? b = some o) → Q (.ref s.heap.objs.size) { s with heap := g }) :
    wpAny (model prog w) A (Builtin.SmallTypes.nextOf (.ref z)) Q E s := by
  have ty : s.TypeIs (.ref z) "zip" := by
    obtain ⟨v, f, zp, _⟩ := st.zip
    exact ⟨_, zp, rfl⟩
  unfold Builtin.SmallTypes.nextOf
  exact wpAny_bind (wpAny_callSpecial?_slot (name := Str.ofString "__next__") ty F.slot_zip_next
    (wpAny_call_entry F.slot_zip_next ty F.entry_zip_next (zip_step D st tc td hx hy fun g a1 a2 a3 a4 => wpAny_pure (fin g a1 a2 a3 a4)) (F.args_zip_next_1 _)))
theorem zip_over {z p q i1 i2 c d : Addr} {k : Nat} {xs ys : Array Value} {Q : Value → Shared → Prop} (hh : A.handled = none) (D : ZipApart z p q i1 i2 c d)
    (st : ZipSt s.heap z p q i1 i2 c d k) (tc : s.heap.IsTuple c xs) (td : s.heap.IsTuple d ys) (stop : xs[k]? = none ∨ ys[k]? = none)
    (fin : ∀ g ex, (∀ b o, b ≠ z → b ≠ q → b ≠ i1 → b ≠ i2 → s.heap.get? b = some o → g.get? b = some o) → (∃ o, g.get? ex = some o ∧ o.cls = .type "StopIteration") → E (.ref ex) { s with heap := g }) :
    wpAny (model prog w) A (Builtin.SmallTypes.nextOf (.ref z)) Q E s := by
  have ty : s.TypeIs (.ref z) "zip" := by
    obtain ⟨v, f, zp, _⟩ := st.zip
    exact ⟨_, zp, rfl⟩
  unfold Builtin.SmallTypes.nextOf
  exact wpAny_bind (wpAny_callSpecial?_slot (name := Str.ofString "__next__") ty F.slot_zip_next
    (wpAny_call_entry F.slot_zip_next ty F.entry_zip_next (zip_stop hh D st tc td stop fin) (F.args_zip_next_1 _)))
theorem zst_keep {g g' : Heap} {z p q i1 i2 c d : Addr} {k : Nat} (st : ZipSt g z p q i1 i2 c d k) (h : ∀ b, (b = z ∨ b = p ∨ b = q ∨ b = i1 ∨ b = i2) → ∀ o, g.get? b = some o → g'.get? b = some o) : ZipSt g' z p q i1 i2 c d k where
  zip := st.zip.imp fun v w => w.imp fun f h1 => ⟨h z (.inl rfl) _ h1.1, h1.2⟩
  its := h p (.inr (.inl rfl)) _ st.its
  own := st.own.imp fun a w => w.imp fun b h1 => h q (.inr (.inr (.inl rfl))) _ h1
  one := st.one.at fun o h1 => h i1 (.inr (.inr (.inr (.inl rfl)))) o h1
  two := st.two.at fun o h1 => h i2 (.inr (.inr (.inr (.inr rfl)))) o h1
/-- e is none of the five -/
structure EnumApart (e z p q i1 i2 : Addr) : Prop where
  z : e ≠ z
  p : e ≠ p
  q : e ≠ q
  one : e ≠ i1
  two : e ≠ i2
theorem EnumApart.ne {e z p q i1 i2 b : Addr} (h : EnumApart e z p q i1 i2) (hb : b = z ∨ b = p ∨ b = q ∨ b = i1 ∨ b = i2) : b ≠ e := by
  rcases hb with r | r | r | r | r
  · rw [r]; exact h.z.symm
  · rw [r]; exact h.p.symm
  · rw [r]; exact h.q.symm
  · rw [r]; exact h.one.symm
  · rw [r]; exact h.two.symm
theorem enumz_step {e z p q i1 i2 c d : Addr} {k : Nat} {i : Int} {old : Value} {xs ys : Array Value} {x y : Value} {Q : Value → Shared → Prop} (D : ZipApart z p q i1 i2 c d) (N : EnumApart e z p q i1 i2)
    (en : IsEnum s.heap e z i old) (st : ZipSt s.heap z p q i1 i2 c d k) (tc : s.heap.IsTuple c xs) (td : s.heap.IsTuple d ys) (hx : xs[k]? = some x) (hy : ys[k]? = some y)
    (fin : ∀ g0 g, IsPair g0 s.heap.objs.size x y → g0.objs.size = s.heap.objs.size + 1 → (∀ b o, b ≠ z → b ≠ q → b ≠ i1 → b ≠ i2 → s.heap.get? b = some o → g0.get? b = some o) →
      IsEnumOut g e z (i + 1) (.ref s.heap.objs.size) (s.heap.objs.size + 1) → ZipSt g z p q i1 i2 c d (k + 1) → g.get? (s.heap.objs.size + 1) = some { cls := .type "tuple", data := .seq #[.int i s.toks, .ref s.heap.objs.size] } →
      (∀ b o, b ≠ e → g0.get? b = some o → g.get? b = some o) → Q (.ref (s.heap.objs.size + 1)) { s with heap := g, toks := s.toks + 1 }) :
    wpAny (model prog w) A (Builtin.«enumerate.__next__» ⟨[.ref e], []⟩) (fun r s' => ∃ v, r = .done (.ret v) ∧ Q v s') E s := by
  obtain ⟨hp, gl, ds, tk, os⟩ := s
  have eb : e < hp.objs.size := Heap.lt_size en
  show wpAny _ _ (field (.ref e) 2 >>= _) _ _ _
  refine wpAny_bind (wpAny_field en rfl (x := .ref z) rfl ?_)
  refine wpAny_bind (zip_draw D st tc td hx hy fun g0 st0 made0 sz0 old0 => ?_)
  replace made0 : IsPair g0 hp.objs.size x y := made0
  replace sz0 : g0.objs.size = hp.objs.size + 1 := sz0
  have en0 : IsEnum g0 e z i old := old0 _ _ N.z N.q N.one N.two en
  show wpAny _ _ (field (.ref e) 3 >>= _) _ _ ⟨g0, gl, ds, tk, os⟩
  refine wpAny_bind (wpAny_field en0 rfl (x := rawInt i) rfl ?_)
  show wpAny _ _ (field (.ref e) 4 >>= _) _ _ ⟨g0, gl, ds, tk, os⟩
  refine wpAny_bind (wpAny_field en0 rfl (x := .none) rfl ?_)
  show wpAny _ _ (mkInt i >>= _) _ _ ⟨g0, gl, ds, tk, os⟩
  refine wpAny_bind (wpAny_mkInt ?_)
  show wpAny _ _ (setField (.ref e) 3 (rawInt (i + 1)) >>= _) _ _ ⟨g0, gl, ds, tk + 1, os⟩
  refine wpAny_bind (wpAny_setField_rec en0 (by simp) fun g1 en1 m1 => ?_)
  replace m1 : Heap.SameBut e g0 g1 := m1
  replace en1 : IsEnum g1 e z (i + 1) old := en1
  show wpAny _ _ (setField (.ref e) 4 .none >>= _) _ _ ⟨g1, gl, ds, tk + 1, os⟩
  refine wpAny_bind (wpAny_setField_rec en1 (by simp) fun g2 en2 m2 => ?_)
  replace m2 : Heap.SameBut e g1 g2 := m2
  replace en2 : IsEnum g2 e z (i + 1) old := en2
  show wpAny _ _ (newTuple [.int i tk, .ref hp.objs.size] >>= _) _ _ ⟨g2, gl, ds, tk + 1, os⟩
  refine wpAny_bind (wpAny_newTuple ?_)
  have sz2 : g2.objs.size = hp.objs.size + 1 := by rw [m2.1, m1.1, sz0]
  have en3 : IsEnum (g2.push { cls := .type "tuple", data := .seq #[.int i tk, .ref hp.objs.size] }) e z (i + 1) old := Heap.get?_push_of_some _ en2
  have made3 : (g2.push { cls := .type "tuple", data := .seq #[.int i tk, .ref hp.objs.size] }).get? (hp.objs.size + 1) = some { cls := .type "tuple", data := .seq #[.int i tk, .ref hp.objs.size] } := by
    rw [← sz2]; exact Heap.get?_push_size _ rfl
  have old3 : ∀ b o, b ≠ e → g0.get? b = some o → (g2.push { cls := .type "tuple", data := .seq #[.int i tk, .ref hp.objs.size] }).get? b = some o := fun b o hb h =>
    Heap.get?_push_of_some _ (m2.extBut b o hb (m1.extBut b o hb h))
  show wpAny _ _ (Builtin.SmallTypes.ownedTupleIsFree (.ref e) >>= _) _ _ ⟨g2.push { cls := .type "tuple", data := .seq #[.int i tk, .ref hp.objs.size] }, gl, ds, tk + 1, os⟩
  rw [sz2]
  generalize (g2.push { cls := .type "tuple", data := .seq #[.int i tk, .ref hp.objs.size] }) = g3 at en3 made3 old3
  refine wpAny_bind ?_
  unfold Builtin.SmallTypes.ownedTupleIsFree
  refine wpAny_bind (wpAny_field en3 rfl (x := .none) rfl (wpAny_pure ?_))
  simp only [if_true]
  refine wpAny_bind (wpAny_rule ?_)
  refine wpAny_bind (wpAny_field en3 rfl (x := old) rfl ?_)
  refine wpAny_bind (wpAny_setField_rec en3 (by simp) fun g4 en4 m4 => ?_)
  replace m4 : Heap.SameBut e g3 g4 := m4
  replace en4 : IsEnum g4 e z (i + 1) (.ref hp.objs.size) := en4
  show wpAny _ _ (Builtin.SmallTypes.ownedTupleHandOut (.ref e) (.ref (hp.objs.size + 1)) >>= _) _ _ ⟨g4, gl, ds, tk + 1, os⟩
  refine wpAny_bind ?_
  unfold Builtin.SmallTypes.ownedTupleHandOut
  refine wpAny_bind (wpAny_setField_rec en4 (by simp) fun g5 en5 m5 => ?_)
  replace m5 : Heap.SameBut e g4 g5 := m5
  replace en5 : IsEnumOut g5 e z (i + 1) (.ref hp.objs.size) (hp.objs.size + 1) := en5
  refine wpAny_setField_rec en5 (by simp) fun g6 en6 m6 => ?_
  replace m6 : Heap.SameBut e g5 g6 := m6
  replace en6 : IsEnumOut g6 e z (i + 1) (.ref hp.objs.size) (hp.objs.size + 1) := en6
  have ne : hp.objs.size + 1 ≠ e := Nat.ne_of_gt (Nat.lt_succ_of_lt eb)
  have old6 : ∀ b o, b ≠ e → g3.get? b = some o → g6.get? b = some o := fun b o hb h => m6.extBut b o hb (m5.extBut b o hb (m4.extBut b o hb h))
  refine wpAny_bind (wpAny_letGo (wpAny_pure ⟨_, rfl, fin g0 g6 made0 sz0 old0 en6 ?_ (old6 _ _ ne made3) fun b o hb h => old6 b o hb (old3 b o hb h)⟩))
  exact zst_keep st0 fun b hb o h => old6 b o (N.ne hb) (old3 b o (N.ne hb) h)
theorem enumz_item {e z p q i1 i2 c d : Addr} {k : Nat} {i : Int} {old : Value} {xs ys : Array Value} {x y : Value} {Q : Option Value → Shared → Prop} (D : ZipApart z p q i1 i2 c d) (N : EnumApart e z p q i1 i2)
    (en : IsEnum s.heap e z i old) (st : ZipSt s.heap z p q i1 i2 c d k) (tc : s.heap.IsTuple c xs) (td : s.heap.IsTuple d ys) (hx : xs[k]? = some x) (hy : ys[k]? = some y)
    (fin : ∀ g0 g, IsPair g0 s.heap.objs.size x y → g0.objs.size = s.heap.objs.size + 1 → (∀ b o, b ≠ z → b ≠ q → b ≠ i1 → b ≠ i2 → s.heap.get? b = some o → g0.get? b = some o) →
      IsEnumOut g e z (i + 1) (.ref s.heap.objs.size) (s.heap.objs.size + 1) → ZipSt g z p q i1 i2 c d (k + 1) → g.get? (s.heap.objs.size + 1) = some { cls := .type "tuple", data := .seq #[.int i s.toks, .ref s.heap.objs.size] } →
      (∀ b o, b ≠ e → g0.get? b = some o → g.get? b = some o) → Q (some (.ref (s.heap.objs.size + 1))) { s with heap := g, toks := s.toks + 1 }) :
    wpAny (model prog w) A (pyNext (.ref e)) Q E s := by
  have ty : s.TypeIs (.ref e) "enumerate" := ⟨_, en, rfl⟩
  unfold pyNext
  exact wpAny_bind (wpAny_attempt (wpAny_callSpecial?_slot (name := Str.ofString "__next__") ty F.slot_enumerate_next
    (wpAny_call_entry F.slot_enumerate_next ty F.entry_enumerate_next
      (enumz_step D N en st tc td hx hy fun g0 g a1 a2 a3 a4 a5 a6 a7 => wpAny_pure (fin g0 g a1 a2 a3 a4 a5 a6 a7)) (F.args_enumerate_next_1 _))))
theorem enumz_end {e z p q i1 i2 c d : Addr} {k : Nat} {i : Int} {old : Value} {xs ys : Array Value} {Q : Option Value → Shared → Prop} (hh : A.handled = none) (D : ZipApart z p q i1 i2 c d)
    (en : IsEnum s.heap e z i old) (st : ZipSt s.heap z p q i1 i2 c d k) (tc : s.heap.IsTuple c xs) (td : s.heap.IsTuple d ys) (stop : xs[k]? = none ∨ ys[k]? = none)
    (fin : ∀ g, (∀ b o, b ≠ z → b ≠ q → b ≠ i1 → b ≠ i2 → s.heap.get? b = some o → g.get? b = some o) → Q none { s with heap := g }) : wpAny (model prog w) A (pyNext (.ref e)) Q E s := by
  have ty : s.TypeIs (.ref e) "enumerate" := ⟨_, en, rfl⟩
  unfold pyNext
  refine wpAny_bind (wpAny_attempt (wpAny_callSpecial?_slot (name := Str.ofString "__next__") ty F.slot_enumerate_next (wpAny_call_entry F.slot_enumerate_next ty F.entry_enumerate_next ?_ (F.args_enumerate_next_1 _))))
  show wpAny _ _ (field (.ref e) 2 >>= _) _ _ _
  refine wpAny_bind (wpAny_field en rfl (x := .ref z) rfl ?_)
  refine wpAny_bind (zip_over (show A.in1.handled = none from hh) D st tc td stop fun g ex keep cl => ?_)
  obtain ⟨o, h1, h2⟩ := cl
  exact wpAny_bind (wpAny_isInstance (T := "StopIteration") (b := true) ⟨o, h1, h2⟩ isSubtype_stop (wpAny_pure (fin g keep)))
end
theorem enumz_made (z p q : Addr) :
    Meets (Builtin.«enumerate.__new__» ⟨[.type "enumerate", .ref z], []⟩) (fun _ R s => IsZip s.heap z p q .none ∧
      R (.ok (.ret (.ref s.heap.objs.size))) { s with heap := s.heap.push { cls := .type "enumerate", data := .fields #[.none, .bool false, .ref z, rawInt 0, .none, .none] } }) :=
  .of_wp fun prog w A R s h => by
    obtain ⟨hp, gl, ds, tk, os⟩ := s
    obtain ⟨hz, h⟩ := h
    replace hz : IsZip hp z p q .none := hz
    have below := sub_enumerate
    have begin_ : ∀ {A' : Around} {E : Value → Shared → Prop} {Q : Value → Shared → Prop}, Q (.ref z) ⟨hp, gl, ds, tk, os⟩ → wpAny (model prog w) A' (pyIter (.ref z)) Q E ⟨hp, gl, ds, tk, os⟩ := fun h => wpAny_pyIter_zip hz h
    wp_walk using begin_
    refine wpAny_stack_any fun st => wpAny_pure ?_
    split
    · rename_i cl _ _ _ _ _
      cases (cl == Value.type "enumerate")
      · wp_walk using begin_
        exact ⟨_, rfl, h⟩
      · wp_walk using begin_
        exact ⟨_, rfl, h⟩
    · wp_walk using begin_
      exact ⟨_, rfl, h⟩
section
variable {prog : Program} {w : World} {A : Around} {E : Value → Shared → Prop} {s : Shared}
theorem enumz_call {z p q : Addr} {Q : Value → Shared → Prop} (hz : IsZip s.heap z p q .none)
    (h : ∀ g, IsEnum g s.heap.objs.size z 0 .none → (∀ b o, s.heap.get? b = some o → g.get? b = some o) → Q (.ref s.heap.objs.size) { s with heap := g }) :
    wpAny (model prog w) A (call (.type "enumerate") [.ref z]) Q E s := by
  refine callType_new F.called_enumerate (by decide) (F.typeCall_enumerate_1 _) (F.newCall_enumerate_1 _) (fun obj => F.args_object_init_2 obj _) F.entry_enumerate_new (enumz_made z p q) ⟨hz, ?_⟩
  have is_ : IsEnum (s.heap.push { cls := .type "enumerate", data := .fields #[.none, .bool false, .ref z, rawInt 0, .none, .none] }) s.heap.objs.size z 0 .none := Heap.get?_push_size _ rfl
  show _ ∧ _
  exact ⟨⟨_, is_, rfl⟩, h _ is_ fun b o y => Heap.get?_push_of_some _ y⟩
end
end PV
namespace PV
open PySem PySem.Spec PyProof.Rows L2
/-- the two tuples, their items in pairs, each behind its number -/
def IteZ (K : Fg) (a b : Addr) : It :=
  ⟨fun i H => ∃ (xs ys : List V) (x y : V), SqT K H a xs ∧ SqT K H b ys ∧ xs[i]? = some x ∧ ys[i]? = some y,
    fun i H v H' => ∃ T U x y, v = .ref U ∧ H T = none ∧ H U = none ∧ U ≠ T ∧ H' = upd (upd H T (.tup [x, y])) U (.tup [.int (i : Nat), .ref T]) ∧ (∀ xs, SqT K H a xs → xs[i]? = some x) ∧ ∀ ys, SqT K H b ys → ys[i]? = some y,
    fun i H => ∃ xs ys : List V, SqT K H a xs ∧ SqT K H b ys ∧ (xs.length ≤ i ∨ ys.length ≤ i)⟩
theorem turn_enumz {P : Program} {w : World} {K : Fg} {elts : List Expr} {kk : Nat} {tpos : Pos} {e z p q i1 i2 c d : Addr} (D : ZipApart z p q i1 i2 c d) (N : EnumApart e z p q i1 i2) :
    Turn P w K (.Tuple elts kk tpos) (IteZ K c d) [e, z, p, q, i1, i2] e (fun i g => (∃ old, IsEnum g e z ((i : Nat) : Int) old) ∧ ZipSt g z p q i1 i2 c d i) where
  mem := List.mem_cons_self
  obj := fun i g st b hb => by
    obtain ⟨⟨old, en⟩, zs⟩ := st
    have hb' : b = e ∨ b = z ∨ b = p ∨ b = q ∨ b = i1 ∨ b = i2 := by simpa using hb
    rcases hb' with r | r | r | r | r | r
    · rw [r]; exact ⟨_, en, fun v y => nomatch y⟩
    · rw [r]; obtain ⟨v, f, zp, _⟩ := zs.zip; exact ⟨_, zp, fun v y => nomatch y⟩
    · rw [r]; exact ⟨_, zs.its, fun v y => nomatch y⟩
    · rw [r]; obtain ⟨x, y, h⟩ := zs.own; exact ⟨_, h, fun v y => nomatch y⟩
    · rw [r]; obtain ⟨o, h1, _, h2⟩ := zs.one; exact ⟨o, h1, fun v y => by rw [h2] at y; cases y⟩
    · rw [r]; obtain ⟨o, h1, _, h2⟩ := zs.two; exact ⟨o, h1, fun v y => by rw [h2] at y; cases y⟩
  keep := fun i g g' st k => ⟨st.1.imp fun old en => k e List.mem_cons_self _ en, zst_keep st.2 fun b hb o h => k b (List.mem_cons_of_mem _ (by simpa using hb)) o h⟩
  item := by
    intro X hP hw hK calm i pins s σ H E I fresh st go
    subst hP hw hK
    obtain ⟨⟨old, en⟩, zs⟩ := st
    obtain ⟨xs, ys, x, y, hc, hd, hx, hy⟩ := go
    obtain ⟨v1, rel1, tc, _⟩ := I.tuple hc
    obtain ⟨v2, rel2, td, _⟩ := I.tuple hd
    obtain ⟨u, hu, ru⟩ := rel1.get hx
    obtain ⟨u', hu', ru'⟩ := rel2.get hy
    have bound : ∀ b ∈ [e, z, p, q, i1, i2], b < s.heap.objs.size := fun b hb => by
      have hb' : b = e ∨ b = z ∨ b = p ∨ b = q ∨ b = i1 ∨ b = i2 := by simpa using hb
      rcases hb' with r | r | r | r | r | r
      · rw [r]; exact Heap.lt_size en
      · rw [r]; obtain ⟨v, f, zp, _⟩ := zs.zip; exact Heap.lt_size zp
      · rw [r]; exact Heap.lt_size zs.its
      · rw [r]; obtain ⟨x, y, h⟩ := zs.own; exact Heap.lt_size h
      · rw [r]; obtain ⟨o, h1, _⟩ := zs.one; exact Heap.lt_size h1
      · rw [r]; obtain ⟨o, h1, _⟩ := zs.two; exact Heap.lt_size h1
    refine enumz_item D N en zs (show s.heap.IsTuple c v1.toArray from tc) (show s.heap.IsTuple d v2.toArray from td) (x := u) (y := u') (by simpa using hu) (by simpa using hu') fun g0 g made0 sz0 old0 out zs2 made old1 => ?_
    refine ⟨_, rfl, wpAny_letOwnedTupleGo_enum (s := { s with heap := g, toks := s.toks + 1 }) out fun g2 en2 sb => ?_⟩
    have new0 : ObjOk X.prog X.w (upd H s.heap.objs.size (.tup [x, y])) g0 s.heap.objs.size (.tup [x, y]) :=
      ⟨by show 2 ≤ sizeLine; decide, [u, u'], .cons ru (.cons ru' .nil), ⟨_, made0, rfl, _, rfl⟩⟩
    have I0 : Inv X pins σ (upd H s.heap.objs.size (.tup [x, y])) { s with heap := g0, toks := s.toks } :=
      I.turnedNew (ch := [z, q, i1, i2]) (fun b ob hb h => old0 b ob (fun r => hb (by simp [r])) (fun r => hb (by simp [r])) (fun r => hb (by simp [r])) (fun r => hb (by simp [r])) h)
        (fun b hb => fresh b (by
          have hb' : b = z ∨ b = q ∨ b = i1 ∨ b = i2 := by simpa using hb
          rcases hb' with r | r | r | r <;> simp [r])) (Nat.le_refl _) new0
    have ne : s.heap.objs.size + 1 ≠ e := Nat.ne_of_gt (Nat.lt_succ_of_lt (bound e List.mem_cons_self))
    have made2 : g2.get? (s.heap.objs.size + 1) = some { cls := .type "tuple", data := .seq #[.int i s.toks, .ref s.heap.objs.size] } := (sb.2 _ ne).trans made
    have new1 : ObjOk X.prog X.w (upd (upd H s.heap.objs.size (.tup [x, y])) (s.heap.objs.size + 1) (.tup [.int (i : Nat), .ref s.heap.objs.size])) g2 (s.heap.objs.size + 1) (.tup [.int (i : Nat), .ref s.heap.objs.size]) :=
      ⟨by show 2 ≤ sizeLine; decide, [.int i s.toks, .ref s.heap.objs.size], .cons ⟨_, rfl⟩ (.cons rfl .nil), ⟨_, made2, rfl, _, rfl⟩⟩
    have fe : FpOk X pins (upd H s.heap.objs.size (.tup [x, y])) e := by
      obtain ⟨f0, fr⟩ := fresh e List.mem_cons_self
      exact ⟨by rw [upd_ne (Nat.ne_of_lt (bound e List.mem_cons_self))]; exact f0, fr⟩
    have I1 : Inv X pins σ (upd (upd H s.heap.objs.size (.tup [x, y])) (s.heap.objs.size + 1) (.tup [.int (i : Nat), .ref s.heap.objs.size])) { s with heap := g2, toks := s.toks + 1 } :=
      I0.turnedNew (t' := s.toks + 1) (ch := [e]) (fun b ob hb h => (sb.2 b (fun r => hb (by simp [r]))).trans (old1 b ob (fun r => hb (by simp [r])) h))
        (fun b hb => by rw [List.mem_singleton.mp hb]; exact fe) (show g0.objs.size ≤ s.heap.objs.size + 1 by rw [sz0]; exact Nat.le_refl _) new1
    have free0 : H s.heap.objs.size = none := I.hok.fresh (Nat.le_refl _)
    have free1 : H (s.heap.objs.size + 1) = none := I.hok.fresh (Nat.le_succ _)
    refine ⟨.ref (s.heap.objs.size + 1), _, I1, rfl, ⟨_, _, x, y, rfl, free0, free1, Nat.succ_ne_self _, rfl, fun l hl => by rw [I.tuple_inj hl hc]; exact hx, fun l hl => by rw [I.tuple_inj hl hd]; exact hy⟩, ⟨⟨.ref s.heap.objs.size, ?_⟩, zst_keep zs2 fun b hb o h => (sb.2 b (N.ne hb)).trans h⟩, fun b hb => ?_⟩
    · have e1 : ((i + 1 : Nat) : Int) = (i : Int) + 1 := by omega
      rw [e1]; exact en2
    · rw [upd_ne (Nat.ne_of_lt (Nat.lt_succ_of_lt (bound b hb))), upd_ne (Nat.ne_of_lt (bound b hb))]
      exact (fresh b hb).1
  done := by
    intro X hP hw hK calm i pins s σ H E I fresh st stop
    subst hP hw hK
    obtain ⟨⟨old, en⟩, zs⟩ := st
    obtain ⟨xs, ys, hc, hd, hend⟩ := stop
    obtain ⟨v1, rel1, tc, _⟩ := I.tuple hc
    obtain ⟨v2, rel2, td, _⟩ := I.tuple hd
    have l1 := rel1.length
    have l2 := rel2.length
    have he : v1.toArray[i]? = none ∨ v2.toArray[i]? = none := by
      rcases hend with r | r
      · exact .inl (by simp; omega)
      · exact .inr (by simp; omega)
    exact enumz_end (I.ok.hd calm) D en zs (show s.heap.IsTuple c v1.toArray from tc) (show s.heap.IsTuple d v2.toArray from td) he fun g keep => ⟨rfl, I.turnedL (t' := s.toks) (ch := [z, q, i1, i2]) (fun b o hb h =>
      keep b o (fun r => hb (by simp [r])) (fun r => hb (by simp [r])) (fun r => hb (by simp [r])) (fun r => hb (by simp [r])) h) fun b hb => fresh b (by
        have hb' : b = z ∨ b = q ∨ b = i1 ∨ b = i2 := by simpa using hb
        rcases hb' with r | r | r | r <;> simp [r])⟩
  self := fun A i s Q E st h => let ⟨⟨_, en⟩, _⟩ := st; wpAny_pyIter_enum en h
/-- enumerate(zip(one, other)), both tuples -/
theorem pi_enumZ {X : Cx} {e1 e2 : Expr} {ta : TA} {ps pe pz pc tpos : Pos} {elts : List Expr} {kk : Nat} (hg : Gl X "enumerate") (hm : X.mg "enumerate" = none) (hgz : Gl X "zip") (hmz : X.mg "zip" = none) (ha : PA X [e1, e2] ta)
    (hs : starEach [e1, e2] X.env = (false, eval e1 X.env) :: starEach [e2] X.env) (hpl : (backTo pc (starEach [e2] X.env)).any (·.1) = false) :
    PI X (.Tuple elts kk tpos) (.Call (.Name "enumerate" pe) [.Call (.Name "zip" pz) [e1, e2] [] pc] [] ps) (fun σ H R => ta σ H fun vs H1 => ∃ a b xs ys, vs = [.ref a, .ref b] ∧ SqT X.K H1 a xs ∧ SqT X.K H1 b ys ∧ R (IteZ X.K a b) H1) := by
  refine ⟨fun pins s σ H R I h => ?_⟩
  refine Call_ (ld_blt I hg hm boot_enumerate (PyProof.Rows.callWith_type1 ?_ rfl rfl))
  show wpAny _ _ (spliced ((false, eval (.Call (.Name "zip" pz) [e1, e2] [] pc) X.env) :: [])) _ _ s
  refine Calls.spliced_cons ?_
  refine Call_ (ld_blt I hgz hmz PyProof.Rows.boot_zip (PyProof.Rows.callWith_type1 (thn (ha.run pc pins s σ H _ I h) fun us s1 ⟨vs, H1, J, rel, q1⟩ => ?_) hs hpl))
  obtain ⟨a, b, xs, ys, ex, hc, hd, q⟩ := q1
  subst ex
  cases rel with
  | cons r1 rr =>
    cases rr with
    | cons r2 rr =>
      cases rr
      cases r1
      cases r2
      obtain ⟨v1, rel1, tc, _⟩ := J.tuple hc
      obtain ⟨v2, rel2, td, _⟩ := J.tuple hd
      obtain ⟨o1, ho1, _⟩ := id tc
      obtain ⟨o2, ho2, _⟩ := id td
      refine RZ.call_zipT (show s1.heap.IsTuple a v1.toArray from tc) (show s1.heap.IsTuple b v2.toArray from td) fun g hz hp hq h1 h2 sz keep => ?_
      refine Calls.spliced_nil ?_
      refine enumz_call (s := { s1 with heap := g }) hz fun g2 en keep2 => wpAny_pyIter_enum en ?_
      have szg : g.objs.size = s1.heap.objs.size + 5 := sz
      have J2 : Inv X pins σ H1 { s1 with heap := g2 } := J.kept (t' := s1.toks) fun b o h => keep2 b o (keep b o h)
      have zs : ZipSt g2 (s1.heap.objs.size + 4) (s1.heap.objs.size + 2) (s1.heap.objs.size + 3) s1.heap.objs.size (s1.heap.objs.size + 1) a b 0 :=
        ⟨⟨_, _, keep2 _ _ hz, .inl rfl⟩, keep2 _ _ hp, ⟨_, _, keep2 _ _ hq⟩, h1.at fun o h => keep2 _ o h, h2.at fun o h => keep2 _ o h⟩
      have N : EnumApart g.objs.size (s1.heap.objs.size + 4) (s1.heap.objs.size + 2) (s1.heap.objs.size + 3) s1.heap.objs.size (s1.heap.objs.size + 1) := by
        rw [szg]
        constructor
        · exact Nat.ne_of_gt (Nat.lt_succ_self _)
        · exact Nat.ne_of_gt (Nat.add_lt_add_left (show 2 < 5 by decide) _)
        · exact Nat.ne_of_gt (Nat.add_lt_add_left (show 3 < 5 by decide) _)
        · exact Nat.ne_of_gt (Nat.lt_add_of_pos_right (show 0 < 5 by decide))
        · exact Nat.ne_of_gt (Nat.add_lt_add_left (show 1 < 5 by decide) _)
      refine ⟨g.objs.size, [g.objs.size, s1.heap.objs.size + 4, s1.heap.objs.size + 2, s1.heap.objs.size + 3, s1.heap.objs.size, s1.heap.objs.size + 1], _, _, H1, rfl, J2, turn_enumz (PySem.W.ktu_apart s1.heap.objs.size a b (Heap.lt_size ho1) (Heap.lt_size ho2)) N, ⟨⟨.none, en⟩, zs⟩, fun c hcm => ?_, q⟩
      have le : s1.heap.objs.size ≤ c := by
        have hc' : c = g.objs.size ∨ c = s1.heap.objs.size + 4 ∨ c = s1.heap.objs.size + 2 ∨ c = s1.heap.objs.size + 3 ∨ c = s1.heap.objs.size ∨ c = s1.heap.objs.size + 1 := by simpa using hcm
        rcases hc' with r | r | r | r | r | r <;> rw [r]
        · rw [szg]; exact Nat.le_add_right _ _
        · exact Nat.le_add_right _ _
        · exact Nat.le_add_right _ _
        · exact Nat.le_add_right _ _
        · exact Nat.le_refl _
        · exact Nat.le_add_right _ _
      exact J.fpOk le (J.hok.fresh le)
end PV
namespace PV
open PySem PySem.Spec PyProof.Rows L2
/-- the walk yields what reads as ds, in order, as long as R stands -/
structure ItOk (K : Fg) (R : Hp) (J : It) (ds : List PyData) : Prop where
  stop : ∀ H, Same R H → J.stop ds.length H
  go : ∀ i H, i < ds.length → Same R H → J.go i H
  yld : ∀ i H x H' d Rn, J.yld i H x H' → ds[i]? = some d → Same R Rn → Same Rn H → (H' = H ∧ Dn K Rn x d) ∨ (∃ T o, H T = none ∧ H' = upd H T o ∧ Dn K (upd Rn T o) x d) ∨ ∃ T o U o2, H T = none ∧ upd H T o U = none ∧ H' = upd (upd H T o) U o2 ∧ Dn K (upd (upd Rn T o) U o2) x d
section
variable {K : Fg} {R : Hp}
theorem itl_ok {a : Addr} {vs : List V} {ds : List PyData} (h : SqL K R a vs) (hd : DnA K R vs ds) : ItOk K R (Itl K a) ds where
  stop := fun H s => ⟨vs, s.seq h, by rw [hd.length]; exact Nat.le_refl _⟩
  go := fun i H hi s => ⟨vs, vs[i]'(by rw [hd.length]; exact hi), s.seq h, List.getElem?_eq_getElem _⟩
  yld := fun i H x H' d Rn y hi s1 s2 => by
    obtain ⟨e, y⟩ := y
    obtain ⟨v, h1, h2⟩ := hd.get hi
    have := y vs ((s1.trans s2).seq h)
    rw [h1] at this; cases this
    exact .inl ⟨e, h2.mono s1⟩
theorem itt_ok {a : Addr} {vs : List V} {ds : List PyData} (h : SqT K R a vs) (hd : DnA K R vs ds) : ItOk K R (Itt K a) ds where
  stop := fun H s => ⟨vs, sqT_same s h, by rw [hd.length]; exact Nat.le_refl _⟩
  go := fun i H hi s => ⟨vs, vs[i]'(by rw [hd.length]; exact hi), sqT_same s h, List.getElem?_eq_getElem _⟩
  yld := fun i H x H' d Rn y hi s1 s2 => by
    obtain ⟨e, y⟩ := y
    obtain ⟨v, h1, h2⟩ := hd.get hi
    have := y vs (sqT_same (s1.trans s2) h)
    rw [h1] at this; cases this
    exact .inl ⟨e, h2.mono s1⟩
def rngD (lo : Int) (n : Nat) : List PyData := (List.range n).map fun k => .int (lo + (k : Nat))
theorem itr_ok {lo : Int} {n : Nat} : ItOk K R (Itr lo n) (rngD lo n) where
  stop := fun H _ => by show n ≤ _; simp [rngD]
  go := fun i H hi _ => by simp [rngD] at hi; exact hi
  yld := fun i H x H' d Rn y hi _ _ => by
    obtain ⟨e, rfl⟩ := y
    have e2 : d = .int (lo + i) := by
      have hl : i < n := by
        have := (List.getElem?_eq_some_iff.mp hi).1
        simpa [rngD] using this
      simp [rngD, List.getElem?_map, List.getElem?_range hl] at hi
      exact hi.symm
    subst e2
    exact .inl ⟨e, .int _⟩
def zipD (ds es : List PyData) : List PyData := (ds.zip es).map fun p => .tuple [p.1, p.2]
theorem zip_yld {a b : Addr} {vs ws : List V} {ds es : List PyData} {i : Nat} {H H' : Hp} {x : V} {d : PyData} {Rn : Hp} (hd : DnA K R vs ds) (he : DnA K R ws es) (hi : (zipD ds es)[i]? = some d) (s1 : Same R Rn) (s2 : Same Rn H)
    (y : ∃ T x' y', x = .ref T ∧ H T = none ∧ H' = upd H T (.tup [x', y']) ∧ vs[i]? = some x' ∧ ws[i]? = some y') : ∃ T o, H T = none ∧ H' = upd H T o ∧ Dn K (upd Rn T o) x d := by
  obtain ⟨T, x', y', rfl, h1, h2, h3, h4⟩ := y
  simp only [zipD, List.getElem?_map, Option.map_eq_some_iff] at hi
  obtain ⟨⟨p, q⟩, hz, rfl⟩ := hi
  obtain ⟨hp, hq⟩ := List.getElem?_zip_eq_some.mp hz
  obtain ⟨v, e1, e2⟩ := hd.get hp
  obtain ⟨w, e3, e4⟩ := he.get hq
  have e1 : vs[i]? = some v := e1
  have e3 : ws[i]? = some w := e3
  rw [h3] at e1; cases e1
  rw [h4] at e3; cases e3
  have n := s2.free h1
  have up := same_new (o := HO.tup [x', y']) n
  exact ⟨T, _, h1, h2, .tup (SqT.of upd_same) (.cons ((e2.mono s1).mono up) (.cons ((e4.mono s1).mono up) .nil))⟩
theorem itz_ok {a b : Addr} {vs ws : List V} {ds es : List PyData} (h : SqL K R a vs) (hd : DnA K R vs ds) (h' : SqL K R b ws) (he : DnA K R ws es) : ItOk K R (Itz K a b) (zipD ds es) where
  stop := fun H s => ⟨vs, ws, s.seq h, s.seq h', by simp only [zipD, List.length_map, List.length_zip, hd.length, he.length]; omega⟩
  go := fun i H hi s => by
    simp only [zipD, List.length_map, List.length_zip, ← hd.length, ← he.length] at hi
    exact ⟨vs, ws, vs[i]'(by omega), ws[i]'(by omega), s.seq h, s.seq h', List.getElem?_eq_getElem _, List.getElem?_eq_getElem _⟩
  yld := fun i H x H' d Rn y hi s1 s2 => by
    obtain ⟨T, x', y', e1, e2, e3, e4, e5⟩ := y
    exact .inr (.inl (zip_yld (a := a) (b := b) hd he hi s1 s2 ⟨T, x', y', e1, e2, e3, e4 vs ((s1.trans s2).seq h), e5 ws ((s1.trans s2).seq h')⟩))
theorem itzT_ok {a b : Addr} {vs ws : List V} {ds es : List PyData} (h : SqT K R a vs) (hd : DnA K R vs ds) (h' : SqT K R b ws) (he : DnA K R ws es) : ItOk K R (RZ.ItzT K a b) (zipD ds es) where
  stop := fun H s => ⟨vs, ws, sqT_same s h, sqT_same s h', by simp only [zipD, List.length_map, List.length_zip, hd.length, he.length]; omega⟩
  go := fun i H hi s => by
    simp only [zipD, List.length_map, List.length_zip, ← hd.length, ← he.length] at hi
    exact ⟨vs, ws, vs[i]'(by omega), ws[i]'(by omega), sqT_same s h, sqT_same s h', List.getElem?_eq_getElem _, List.getElem?_eq_getElem _⟩
  yld := fun i H x H' d Rn y hi s1 s2 => by
    obtain ⟨T, x', y', e1, e2, e3, e4, e5⟩ := y
    exact .inr (.inl (zip_yld (a := a) (b := b) hd he hi s1 s2 ⟨T, x', y', e1, e2, e3, e4 vs (sqT_same (s1.trans s2) h), e5 ws (sqT_same (s1.trans s2) h')⟩))
def enumD (ds : List PyData) : List PyData := ds.zipIdx.map fun p => .tuple [.int (p.2 : Nat), p.1]
theorem enum_yld {vs : List V} {ds : List PyData} {i : Nat} {H H' : Hp} {x : V} {d : PyData} {Rn : Hp} (hd : DnA K R vs ds) (hi : (enumD ds)[i]? = some d) (s1 : Same R Rn) (s2 : Same Rn H)
    (y : ∃ T x', x = .ref T ∧ H T = none ∧ H' = upd H T (.tup [.int (i : Nat), x']) ∧ vs[i]? = some x') : ∃ T o, H T = none ∧ H' = upd H T o ∧ Dn K (upd Rn T o) x d := by
  obtain ⟨T, x', rfl, h1, h2, h3⟩ := y
  simp only [enumD, List.getElem?_map, Option.map_eq_some_iff, List.getElem?_zipIdx] at hi
  obtain ⟨⟨p, q⟩, ⟨c, hz, hz2⟩, rfl⟩ := hi
  obtain ⟨v, e1, e2⟩ := hd.get hz
  rw [h3] at e1; cases e1
  cases hz2
  have n := s2.free h1
  have up := same_new (o := HO.tup [.int (i : Nat), x']) n
  refine ⟨T, _, h1, h2, .tup (SqT.of upd_same) (.cons ?_ (.cons ((e2.mono s1).mono up) .nil))⟩
  rw [Nat.zero_add]
  exact .int _
theorem ite_ok {a : Addr} {vs : List V} {ds : List PyData} (h : SqL K R a vs) (hd : DnA K R vs ds) : ItOk K R (Ite K a) (enumD ds) where
  stop := fun H s => ⟨vs, s.seq h, by simp only [enumD, List.length_map, List.length_zipIdx, hd.length]; exact Nat.le_refl _⟩
  go := fun i H hi s => by
    simp only [enumD, List.length_map, List.length_zipIdx, ← hd.length] at hi
    exact ⟨vs, vs[i], s.seq h, List.getElem?_eq_getElem _⟩
  yld := fun i H x H' d Rn y hi s1 s2 => by
    obtain ⟨T, x', e1, e2, e3, e4⟩ := y
    exact .inr (.inl (enum_yld hd hi s1 s2 ⟨T, x', e1, e2, e3, e4 vs ((s1.trans s2).seq h)⟩))
end
theorem iteT_ok {K : Fg} {R : Hp} {a : Addr} {vs : List V} {ds : List PyData} (h : SqT K R a vs) (hd : DnA K R vs ds) : ItOk K R (IteT K a) (enumD ds) where
  stop := fun H s => ⟨vs, sqT_same s h, by simp only [enumD, List.length_map, List.length_zipIdx, hd.length]; exact Nat.le_refl _⟩
  go := fun i H hi s => by
    simp only [enumD, List.length_map, List.length_zipIdx, ← hd.length] at hi
    exact ⟨vs, vs[i], sqT_same s h, List.getElem?_eq_getElem _⟩
  yld := fun i H x H' d Rn y hi s1 s2 => by
    obtain ⟨T, x', e1, e2, e3, e4⟩ := y
    exact .inr (.inl (enum_yld hd hi s1 s2 ⟨T, x', e1, e2, e3, e4 vs (sqT_same (s1.trans s2) h)⟩))

theorem iteZ_ok {K : Fg} {R : Hp} {a b : Addr} {vs ws : List V} {ds es : List PyData} (h : SqT K R a vs) (hd : DnA K R vs ds) (h' : SqT K R b ws) (he : DnA K R ws es) : ItOk K R (IteZ K a b) (enumD (zipD ds es)) where
  stop := fun H s => ⟨vs, ws, sqT_same s h, sqT_same s h', by
    simp only [enumD, zipD, List.length_map, List.length_zipIdx, List.length_zip, hd.length, he.length]; omega⟩
  go := fun i H hi s => by
    simp only [enumD, zipD, List.length_map, List.length_zipIdx, List.length_zip, ← hd.length, ← he.length] at hi
    have i1 : i < vs.length := by omega
    have i2 : i < ws.length := by omega
    exact ⟨vs, ws, vs[i], ws[i], sqT_same s h, sqT_same s h', List.getElem?_eq_getElem _, List.getElem?_eq_getElem _⟩
  yld := fun i H x H' d Rn y hi s1 s2 => by
    obtain ⟨T, U, x1, x2, rfl, hT, hU, ne, rfl, y1, y2⟩ := y
    have y1 := y1 vs (sqT_same (s1.trans s2) h)
    have y2 := y2 ws (sqT_same (s1.trans s2) h')
    simp only [enumD, List.getElem?_map, Option.map_eq_some_iff, List.getElem?_zipIdx] at hi
    obtain ⟨⟨t, n⟩, ⟨c, hz, hz2⟩, rfl⟩ := hi
    cases hz2
    have hU2 : upd H T (.tup [x1, x2]) U = none := by rw [upd_ne ne]; exact hU
    simp only [zipD, List.getElem?_map, Option.map_eq_some_iff] at hz
    obtain ⟨⟨p, q⟩, hz, rfl⟩ := hz
    obtain ⟨hp, hq⟩ := List.getElem?_zip_eq_some.mp hz
    obtain ⟨v, e1, e2⟩ := hd.get hp
    obtain ⟨w, e3, e4⟩ := he.get hq
    have e1 : vs[i]? = some v := e1
    have e3 : ws[i]? = some w := e3
    rw [y1] at e1; cases e1
    rw [y2] at e3; cases e3
    have up := same_new (o := HO.tup [x1, x2]) (s2.free hT)
    have n2 : upd Rn T (.tup [x1, x2]) U = none := by rw [upd_ne ne]; exact s2.free hU
    have dT : Dn K (upd Rn T (.tup [x1, x2])) (.ref T) (.tuple [p, q]) := .tup (SqT.of upd_same) (.cons ((e2.mono s1).mono up) (.cons ((e4.mono s1).mono up) .nil))
    refine .inr (.inr ⟨T, _, U, _, hT, hU2, rfl, .tup (SqT.of upd_same) (.cons ?_ (.cons (dT.mono (same_new n2)) .nil))⟩)
    rw [Nat.zero_add]
    exact .int _
/-! ### an iterable -/
def AfterI (K : Fg) (B : Bs) (W : Wx) (σ : L2.St) (R H : Hp) (e : Ev) (r : Rs (List PyData)) (Q : It → Hp → Prop) : Prop := match r with
  | .ok ds e' => ∀ J R' H', Same R R' → Rel K B R' σ H' e' → Frm σ e H H' → Tr e e' → ItOk K R' J ds → Q J H'
  | .ex c => exq B W c
  | .bad => False
def tI (K : Fg) (B : Bs) (W : Wx) (f : Ev → Rs (List PyData)) : TI := fun σ H Q => ∃ R e, Rel K B R σ H e ∧ AfterI K B W σ R H e (f e) Q
abbrev DI (X : Cx) (B : Bs) (W : Wx) (tg iter : Expr) (f : Ev → Rs (List PyData)) : Prop := PI X tg iter (tI X.K B W f)
theorem pi_imp {X : Cx} {tg a : Expr} {t t' : TI} (h : PI X tg a t) (i : ∀ σ H Q, t' σ H Q → t σ H Q) : PI X tg a t' := ⟨fun pins s σ H Q I q => h.run pins s σ H Q I (i σ H Q q)⟩
section
variable {X : Cx} {B : Bs} {W : Wx} {a b c : Expr} {fa fb : Ev → Rs Rv} {pos p tpos : Pos} {tg : Expr} {io : Bool}
/-- a list or a tuple is walked -/
theorem pi_seq {l : Expr} {tl : TE} (hl : PE X l tl) : PI X tg l (fun σ H R => tl σ H fun x H1 => ∃ a, x = .ref a ∧ (((∃ xs, SqL X.K H1 a xs) ∧ R (Itl X.K a) H1) ∨ ((∃ xs, SqT X.K H1 a xs) ∧ R (Itt X.K a) H1))) := by
  refine ⟨fun pins s σ H R I h => thn (hl.run pins s σ H _ I h) fun v s1 ⟨x, H1, I1, r1, q1⟩ => ?_⟩
  obtain ⟨a, rfl, q⟩ := q1
  cases r1
  have fp : ∀ b ∈ [s1.heap.objs.size], FpOk X pins H1 b := fun b hb => by
    rw [List.mem_singleton] at hb
    rw [hb]
    exact I1.fpOk (Nat.le_refl _) (I1.hok.fresh (Nat.le_refl _))
  rcases q with ⟨⟨xs, hq⟩, q⟩ | ⟨⟨xs, hq⟩, q⟩
  · obtain ⟨its, rv, pl, _⟩ := I1.list hq
    refine wpAny_pyIter_list pl.isList ⟨_, [s1.heap.objs.size], _, _, H1, rfl, ?_, turn_list a _, ⟨_, Heap.get?_push_size _ rfl, rfl, rfl⟩, fp, q⟩
    exact I1.kept (t' := s1.toks) fun b o e => Heap.get?_push_of_some _ e
  · obtain ⟨its, rv, pl, _⟩ := I1.tuple hq
    refine wpAny_pyIter_tuple pl ⟨_, [s1.heap.objs.size], _, _, H1, rfl, ?_, turn_tuple a _, ⟨_, Heap.get?_push_size _ rfl, rfl, rfl⟩, fp, q⟩
    exact I1.kept (t' := s1.toks) fun b o e => Heap.get?_push_of_some _ e
def itemsOf : PyData → Option (List PyData)
  | .list ds => some ds
  | .tuple ds => some ds
  | _ => none
def fSeq (io : Bool) (fa : Ev → Rs Rv) (e : Ev) : Rs (List PyData) := (shr io (fa e)).bind fun rv e1 => match rv with
  | .sh d => (match itemsOf d with
    | some ds => .ok ds e1
    | none => .bad)
  | _ => .bad
theorem di_seq (hio : io = B.io.isSome) (ha : DX X B W a fa) : DI X B W tg a (fSeq io fa) := by
  refine pi_imp (pi_seq (dx_share hio ha)) fun σ H Q h => ?_
  obtain ⟨R, e, r, h⟩ := h
  refine ⟨R, e, r, ?_⟩
  have h : AfterI X.K B W σ R H e ((shr io (fa e)).bind fun rv e1 => match rv with
    | .sh d => (match itemsOf d with
      | some ds => .ok ds e1
      | none => .bad)
    | _ => .bad) Q := h
  show After X.K B W σ R H e (shr io (fa e)) _
  cases q : shr io (fa e) with
  | ex c => rw [q] at h; exact h
  | bad => rw [q] at h; exact h
  | ok rv e1 =>
    rw [q] at h
    intro x R1 H1 s1 r1 f1 t1 v1
    simp only [Rs.bind] at h
    cases rv with
    | fl d => exact h.elim
    | fd d => exact h.elim
    | sl d => exact h.elim
    | sh d =>
      simp only at h
      cases v1 with
      | lst h1 h2 => exact ⟨_, rfl, .inl ⟨⟨_, SqL.of (r1.sub _ _ h1)⟩, h _ R1 H1 s1 r1 f1 t1 (itl_ok (SqL.of h1) h2)⟩⟩
      | tup h1 h2 => exact ⟨_, rfl, .inr ⟨⟨_, sqT_same r1.sub h1⟩, h _ R1 H1 s1 r1 f1 t1 (itt_ok h1 h2)⟩⟩
      | _ => exact h.elim
theorem tI_L {K : Fg} {fl : Ev → Rs (List Rv)} {k : List Rv → Ev → Rs (List PyData)} {σ : L2.St} {H : Hp} {Q : It → Hp → Prop} (h : tI K B W (fun e => (fl e).bind k) σ H Q) :
    tL K B W fl σ H fun xs H1 => ∃ R e rvs, Rel K B R σ H1 e ∧ VRs K B R H1 σ e xs rvs ∧ AfterI K B W σ R H1 e (k rvs e) Q := by
  obtain ⟨R, e, r, h⟩ := h
  refine ⟨R, e, r, ?_⟩
  have h : AfterI K B W σ R H e ((fl e).bind k) Q := h
  cases q : fl e with
  | ex c => rw [q] at h; exact h
  | bad => rw [q] at h; exact h
  | ok rvs e1 =>
    rw [q] at h
    intro xs R1 H1 s1 r1 f1 t1 v1
    refine ⟨R1, e1, rvs, r1, v1, ?_⟩
    have h : AfterI K B W σ R H e (k rvs e1) Q := h
    cases q2 : k rvs e1 with
    | ex c => rw [q2] at h; exact h
    | bad => rw [q2] at h; exact h
    | ok ds e2 => rw [q2] at h; exact fun J R2 H2 s2 r2 f2 t2 => h J R2 H2 (s1.trans s2) r2 (f1.trans t1 f2) (t1.trans t2)
theorem vrs_len {K : Fg} {R H : Hp} {σ : L2.St} {e : Ev} {vs : List V} {rvs : List Rv} (h : VRs K B R H σ e vs rvs) : vs.length = rvs.length := by
  induction h with
  | nil => rfl
  | cons _ _ _ ih => simp [ih]
theorem resL_len {e : Ev} : ∀ {rvs : List Rv} {ds : List PyData}, resL e rvs = some ds → rvs.length = ds.length
  | [], ds, h => by simp only [resL, Option.some.injEq] at h; subst h; rfl
  | r :: rs, ds, h => by
    simp only [resL] at h
    cases q1 : res e r with
    | none => rw [q1] at h; cases h
    | some d =>
      cases q2 : resL e rs with
      | none => rw [q1, q2] at h; cases h
      | some ds' =>
        rw [q1, q2] at h
        cases Option.some.inj h
        simp [resL_len q2]
def fRng1 (fl : Ev → Rs (List Rv)) (e : Ev) : Rs (List PyData) := (fl e).bind fun rvs e1 => match resL e1 rvs with
  | some [.int j] => if -4611686018427387904 ≤ j ∧ j < 4611686018427387904 then .ok (rngD 0 j.toNat) e1 else .bad
  | _ => .bad
def fRng2 (fl : Ev → Rs (List Rv)) (e : Ev) : Rs (List PyData) := (fl e).bind fun rvs e1 => match resL e1 rvs with
  | some [.int i, .int j] => if (-4611686018427387904 ≤ i ∧ i < 4611686018427387904) ∧ -4611686018427387904 ≤ j ∧ j < 4611686018427387904 then .ok (rngD i (j - i).toNat) e1 else .bad
  | _ => .bad
theorem di_range1 {fl : Ev → Rs (List Rv)} (hg : Gl X "range") (hm : X.mg "range" = none) (ha : DL X B W [a] fl) (hs : noStar [a] = true) : DI X B W tg (.Call (.Name "range" p) [a] [] pos) (fRng1 fl) := by
  refine pi_imp (pi_range1 hg hm ha (star_cons hs)) fun σ H Q h => ?_
  refine tl_mono (tI_L h) fun xs H1 ⟨R, e, rvs, r, v, h⟩ => ?_
  cases qd : resL e rvs with
  | none => rw [qd] at h; exact h.elim
  | some ds =>
    rw [qd] at h
    have dc := resL_dc r v qd
    split at h
    · rename_i j hj
      cases hj
      split at h
      · rename_i hz
        obtain ⟨v0, rfl, hx⟩ := dcA1 dc
        exact ⟨j, by rw [dc_int hx], by omega, by omega, h _ R H1 (Same.refl _) r .refl (.refl _) itr_ok⟩
      · exact h.elim
    · exact h.elim
theorem di_range2 {fl : Ev → Rs (List Rv)} (hg : Gl X "range") (hm : X.mg "range" = none) (ha : DL X B W [a, b] fl) (hs : noStar [a, b] = true) : DI X B W tg (.Call (.Name "range" p) [a, b] [] pos) (fRng2 fl) := by
  refine pi_imp (pi_range2 hg hm ha (by rw [star_cons hs, star_cons (noStar_tail hs)]; rfl) (by rw [star_cons (noStar_tail hs)]; rfl)) fun σ H Q h => ?_
  refine tl_mono (tI_L h) fun xs H1 ⟨R, e, rvs, r, v, h⟩ => ?_
  cases qd : resL e rvs with
  | none => rw [qd] at h; exact h.elim
  | some ds =>
    rw [qd] at h
    have dc := resL_dc r v qd
    split at h
    · rename_i i j hj
      cases hj
      split at h
      · rename_i hz
        obtain ⟨v0, w0, rfl, hx, hy⟩ := dcA2 dc
        exact ⟨i, j, by rw [dc_int hx, dc_int hy], by omega, h _ R H1 (Same.refl _) r .refl (.refl _) itr_ok⟩
      · exact h.elim
    · exact h.elim
/-- zip of two lists or two tuples that stand still -/
def fZip (fl : Ev → Rs (List Rv)) (e : Ev) : Rs (List PyData) := (fl e).bind fun rvs e1 => match rvs with
  | [.sh (.list ds), .sh (.list es)] => .ok (zipD ds es) e1
  | [.sh (.tuple ds), .sh (.tuple es)] => .ok (zipD ds es) e1
  | _ => .bad
theorem di_zip {elts : List Expr} {kk : Nat} {fl : Ev → Rs (List Rv)} (hg : Gl X "zip") (hm : X.mg "zip" = none) (ha : DL X B W [a, b] fl) (hs : noStar [a, b] = true) : DI X B W (.Tuple elts kk tpos) (.Call (.Name "zip" p) [a, b] [] pos) (fZip fl) := by
  refine pi_imp (RZ.pi_zipA hg hm ha (star_cons hs) (noStar_flat (noStar_tail hs))) fun σ H Q h => ?_
  refine tl_mono (tI_L h) fun xs H1 ⟨R, e, rvs, r, v, h⟩ => ?_
  split at h
  · cases v with
    | cons v1 _ v2 =>
      cases v2 with
      | cons v3 _ v4 =>
        cases v4
        cases v1 with
        | lst h1 h2 => cases v3 with
                       | lst h3 h4 => exact ⟨_, _, _, _, rfl, .inl ⟨SqL.of (r.sub _ _ h1), SqL.of (r.sub _ _ h3), h _ R H1 (Same.refl _) r .refl (.refl _) (itz_ok (SqL.of h1) h2 (SqL.of h3) h4)⟩⟩
  · cases v with
    | cons v1 _ v2 =>
      cases v2 with
      | cons v3 _ v4 =>
        cases v4
        cases v1 with
        | tup h1 h2 => cases v3 with
                       | tup h3 h4 => exact ⟨_, _, _, _, rfl, .inr ⟨sqT_same r.sub h1, sqT_same r.sub h3, h _ R H1 (Same.refl _) r .refl (.refl _) (itzT_ok h1 h2 h3 h4)⟩⟩
  · exact h.elim

/-- enumerate of a list or of a tuple -/
theorem pi_enumA {X : Cx} {e : Expr} {ta : TA} {p pos tpos : Pos} {elts : List Expr} {kk : Nat} (hg : Gl X "enumerate") (hm : X.mg "enumerate" = none) (ha : PA X [e] ta) (hs : starEach [e] X.env = [(false, eval e X.env)]) :
    PI X (.Tuple elts kk tpos) (.Call (.Name "enumerate" p) [e] [] pos) (fun σ H R => ta σ H fun vs H1 => ∃ a, vs = [.ref a] ∧ ((∃ xs, SqL X.K H1 a xs ∧ R (Ite X.K a) H1) ∨ ∃ xs, SqT X.K H1 a xs ∧ R (IteT X.K a) H1)) := by
  refine ⟨fun pins s σ H R I h => ?_⟩
  refine Call_ (ld_blt I hg hm boot_enumerate (PyProof.Rows.callWith_type1 (thn (ha.run pos pins s σ H _ I h) fun us s1 ⟨vs, H1, J, rel, q1⟩ => ?_) hs rfl))
  obtain ⟨a, ex, q⟩ := q1
  subst ex
  have new2 : ∀ b ∈ [s1.heap.objs.size + 1, s1.heap.objs.size], s1.heap.objs.size ≤ b := fun b hb => by
    rcases List.mem_cons.mp hb with z | z
    · rw [z]; exact Nat.le_add_right _ _
    · rw [List.mem_singleton.mp z]; exact Nat.le_refl _
  cases rel with
  | cons r rr =>
    cases rr
    cases r
    rcases q with ⟨xs, hq, q⟩ | ⟨xs, hq, q⟩
    · obtain ⟨vals, _, lp, _⟩ := J.list hq
      refine call_enumerate_list lp.isList fun hp en li _ keep => wpAny_pyIter_enum en ?_
      exact ⟨s1.heap.objs.size + 1, [s1.heap.objs.size + 1, s1.heap.objs.size], _, _, H1, rfl, J.kept (t' := s1.toks) keep, turn_enum a (s1.heap.objs.size + 1) s1.heap.objs.size, ⟨⟨.none, en⟩, li, Nat.succ_ne_self _⟩, fun b hb => J.fpOk (new2 b hb) (J.hok.fresh (new2 b hb)), q⟩
    · obtain ⟨vals, _, tp, _⟩ := J.tuple hq
      refine enum_call tp fun hp en ti keep => wpAny_pyIter_enum en ?_
      exact ⟨s1.heap.objs.size + 1, [s1.heap.objs.size + 1, s1.heap.objs.size], _, _, H1, rfl, J.kept (t' := s1.toks) keep, turn_enumT a (s1.heap.objs.size + 1) s1.heap.objs.size, ⟨⟨.none, en⟩, ti, Nat.succ_ne_self _⟩, fun b hb => J.fpOk (new2 b hb) (J.hok.fresh (new2 b hb)), q⟩
def fEnum (fl : Ev → Rs (List Rv)) (e : Ev) : Rs (List PyData) := (fl e).bind fun rvs e1 => match rvs with
  | [.sh (.list ds)] => .ok (enumD ds) e1
  | [.sh (.tuple ds)] => .ok (enumD ds) e1
  | _ => .bad
theorem di_enum {elts : List Expr} {kk : Nat} {fl : Ev → Rs (List Rv)} (hg : Gl X "enumerate") (hm : X.mg "enumerate" = none) (ha : DL X B W [a] fl) (hs : noStar [a] = true) : DI X B W (.Tuple elts kk tpos) (.Call (.Name "enumerate" p) [a] [] pos) (fEnum fl) := by
  refine pi_imp (pi_enumA hg hm ha (star_cons hs)) fun σ H Q h => ?_
  refine tl_mono (tI_L h) fun xs H1 ⟨R, e, rvs, r, v, h⟩ => ?_
  split at h
  · cases v with
    | cons v1 _ v2 =>
      cases v2
      cases v1 with
      | lst h1 h2 => exact ⟨_, rfl, .inl ⟨_, SqL.of (r.sub _ _ h1), h _ R H1 (Same.refl _) r .refl (.refl _) (ite_ok (SqL.of h1) h2)⟩⟩
  · cases v with
    | cons v1 _ v2 =>
      cases v2
      cases v1 with
      | tup h1 h2 => exact ⟨_, rfl, .inr ⟨_, sqT_same r.sub h1, h _ R H1 (Same.refl _) r .refl (.refl _) (iteT_ok h1 h2)⟩⟩
  · exact h.elim

/-- enumerate of a zip of two tuples -/
def fEnumZ (fl : Ev → Rs (List Rv)) (e : Ev) : Rs (List PyData) := (fl e).bind fun rvs e1 => match rvs with
  | [.sh (.tuple ds), .sh (.tuple es)] => .ok (enumD (zipD ds es)) e1
  | _ => .bad
theorem di_enumz {elts : List Expr} {kk : Nat} {pe pz pc : Pos} {fl : Ev → Rs (List Rv)} (hg : Gl X "enumerate") (hm : X.mg "enumerate" = none) (hgz : Gl X "zip") (hmz : X.mg "zip" = none) (ha : DL X B W [a, b] fl) (hs : noStar [a, b] = true) :
    DI X B W (.Tuple elts kk tpos) (.Call (.Name "enumerate" pe) [.Call (.Name "zip" pz) [a, b] [] pc] [] pos) (fEnumZ fl) := by
  refine pi_imp (pi_enumZ hg hm hgz hmz ha (star_cons hs) (noStar_flat (noStar_tail hs))) fun σ H Q h => ?_
  refine tl_mono (tI_L h) fun xs H1 ⟨R, e, rvs, r, v, h⟩ => ?_
  split at h
  · cases v with
    | cons v1 _ v2 =>
      cases v2 with
      | cons v3 _ v4 =>
        cases v4
        cases v1 with
        | tup h1 h2 => cases v3 with
                       | tup h3 h4 => exact ⟨_, _, _, _, rfl, sqT_same r.sub h1, sqT_same r.sub h3, h _ R H1 (Same.refl _) r .refl (.refl _) (iteZ_ok h1 h2 h3 h4)⟩
  · exact h.elim

/-! ### for -/
def forL (t : Tgt) (body : Ev → Fl) : List PyData → Ev → Fl
  | [], e => .nx e
  | d :: ds, e => match t d e with
    | none => .bad
    | some e1 => match body e1 with
      | .nx e2 => forL t body ds e2
      | .ct e2 => forL t body ds e2
      | .bk e2 => .nx e2
      | r => r
def fFor (t : Tgt) (fi : Ev → Rs (List PyData)) (body : Ev → Fl) (e : Ev) : Fl := match fi e with
  | .ok ds e1 => forL t body ds e1
  | .ex c => .ex c
  | .bad => .bad
theorem ds_for {iter : Expr} {body : List Stmt} {t : Tgt} {is : List Nat} {fi : Ev → Rs (List PyData)} {f : Ev → Fl} (hp : PassesOwn (model X.prog X.w) X.A X.env X.xe) (hc : X.calm = true) (hi : DI X B W tg iter fi) (hg : DG X B tg is t) (hb : DSs X B W body f)
    (hs : ∀ x, foldedSetIterable iter X.env x = pure x) : DS X B W (.For tg iter body [] pos) (fFor t fi f) := by
  refine ps_imp (ps_for hp hc hi hg hb hs) fun D σ H h => ?_
  obtain ⟨R, e, r, h⟩ := h
  refine ⟨R, e, r, ?_⟩
  unfold fFor at h
  cases q : fi e with
  | ex c => rw [q] at h; exact h
  | bad => rw [q] at h; exact h
  | ok ds e1 =>
    rw [q] at h
    intro J R1 H1 s1 r1 f1 t1 ij
    have h := afterS_seq s1 h
    refine ⟨fun i m σ H => m = ds.length - i ∧ i ≤ ds.length ∧ ∃ R2 e2, Same R1 R2 ∧ Rel X.K B R2 σ H e2 ∧ AfterS X.K B W R1 (forL t f (ds.drop i) e2) D, ⟨_, rfl, Nat.zero_le _, R1, e1, Same.refl _, r1, h⟩, ?_⟩
    rintro i m σ H ⟨rfl, hi, R2, e2, s2, r2, h⟩
    by_cases hlt : i < ds.length
    · refine .inr ⟨ij.go i H hlt (s2.trans r2.sub), fun σ' H' => ∃ R3 e3, Same R1 R3 ∧ Rel X.K B R3 σ' H' e3 ∧ AfterS X.K B W R1 (forL t f (ds.drop (i + 1)) e3) D,
        fun σ' H' ⟨R3, e3, s3, r3, h3⟩ => ⟨_, by omega, rfl, hlt, R3, e3, s3, r3, h3⟩, fun x H' y => ?_⟩
      have hdrop : ds.drop i = ds[i] :: ds.drop (i + 1) := List.drop_eq_getElem_cons hlt
      rw [hdrop] at h
      simp only [forL] at h
      have fin : ∀ R3, Same R1 R3 → Rel X.K B R3 σ H' e2 → Dn X.K R3 x ds[i] → tG X.K B is t x σ H' fun σ2 H2 => tS X.K B W f { D with nx := fun σ' H' => ∃ R3 e3, Same R1 R3 ∧ Rel X.K B R3 σ' H' e3 ∧ AfterS X.K B W R1 (forL t f (ds.drop (i + 1)) e3) D, ct := fun σ' H' => ∃ R3 e3, Same R1 R3 ∧ Rel X.K B R3 σ' H' e3 ∧ AfterS X.K B W R1 (forL t f (ds.drop (i + 1)) e3) D, bk := D.nx } σ2 H2 := by
        intro R3 s3 r3 hd
        refine ⟨R3, e2, ds[i], r3, hd, ?_⟩
        cases qt : t ds[i] e2 with
        | none => rw [qt] at h; exact h.elim
        | some e4 =>
          rw [qt] at h
          intro σ4 _ r4
          refine ⟨R3, e4, r4, ?_⟩
          simp only at h
          cases qf : f e4 with
          | nx e5 => rw [qf] at h; exact fun σ5 R5 H5 s5 r5 => ⟨R5, e5, s3.trans s5, r5, h⟩
          | ct e5 => rw [qf] at h; exact fun σ5 R5 H5 s5 r5 => ⟨R5, e5, s3.trans s5, r5, h⟩
          | bk e5 => rw [qf] at h; exact fun σ5 R5 H5 s5 r5 => h σ5 R5 H5 (s3.trans s5) r5
          | rt rv e5 => rw [qf] at h; exact fun v σ5 R5 H5 s5 r5 => h v σ5 R5 H5 (s3.trans s5) r5
          | ex c => rw [qf] at h; exact h
          | bad => rw [qf] at h; exact h
      rcases ij.yld i H x H' ds[i] R2 y (List.getElem?_eq_getElem hlt) s2 r2.sub with ⟨rfl, hd⟩ | ⟨T, o, hT, rfl, hd⟩ | ⟨T, o, U, o2, hT, hU, rfl, hd⟩
      · exact fin R2 s2 r2 hd
      · exact fin (upd R2 T o) (s2.trans (same_new (r2.rnn hT))) (r2.new_sh hT) hd
      · exact fin (upd (upd R2 T o) U o2) ((s2.trans (same_new (r2.rnn hT))).trans (same_new ((r2.new_sh hT).rnn hU))) ((r2.new_sh hT).new_sh hU) hd
    · have e3 : i = ds.length := by omega
      subst e3
      rw [List.drop_length] at h
      exact .inl ⟨ij.stop H (s2.trans r2.sub), h σ R2 H s2 r2⟩

/-! ### while: at most n turns -/
def whileL (c : Ev → Rs Bool) (body : Ev → Fl) : Nat → Ev → Fl
  | 0, _ => .bad
  | n + 1, e => match c e with
    | .ok true e1 => (match body e1 with
      | .nx e2 => whileL c body n e2
      | .ct e2 => whileL c body n e2
      | .bk e2 => .nx e2
      | r => r)
    | .ok false e1 => .nx e1
    | .ex c => .ex c
    | .bad => .bad
theorem ds_while {c : Expr} {body : List Stmt} {fc : Ev → Rs Bool} {f : Ev → Fl} (n : Nat) (hp : PassesOwn (model X.prog X.w) X.A X.env X.xe) (hc : DT X B W c fc) (hb : DSs X B W body f) : DS X B W (.While c body [] pos) (whileL fc f n) := by
  refine ps_imp (ps_while hp hc hb) fun D σ H h => ?_
  obtain ⟨R, e, r, h⟩ := h
  refine ⟨fun m σ H => ∃ R1 e1, Same R R1 ∧ Rel X.K B R1 σ H e1 ∧ AfterS X.K B W R (whileL fc f m e1) D, ⟨n, R, e, Same.refl _, r, h⟩, ?_⟩
  rintro m σ H ⟨R1, e1, s1, r1, h⟩
  cases m with
  | zero => exact h.elim
  | succ m =>
    refine ⟨R1, e1, r1, ?_⟩
    simp only [whileL] at h
    cases qc : fc e1 with
    | ex c => rw [qc] at h; exact h
    | bad => rw [qc] at h; exact h
    | ok b e2 =>
      rw [qc] at h
      intro R2 H2 s2 r2 f2 t2
      cases b with
      | false => exact h σ R2 H2 (s1.trans s2) r2
      | true =>
        refine ⟨fun σ' H' => ∃ R3 e3, Same R R3 ∧ Rel X.K B R3 σ' H' e3 ∧ AfterS X.K B W R (whileL fc f m e3) D, fun σ' H' ⟨R3, e3, s3, r3, h3⟩ => ⟨m, Nat.lt_succ_self _, R3, e3, s3, r3, h3⟩, R2, e2, r2, ?_⟩
        have h : AfterS X.K B W R (match f e2 with
          | .nx e2 => whileL fc f m e2
          | .ct e2 => whileL fc f m e2
          | .bk e2 => .nx e2
          | r => r) D := h
        cases qf : f e2 with
        | nx e5 => rw [qf] at h; exact fun σ5 R5 H5 s5 r5 => ⟨R5, e5, s1.trans (s2.trans s5), r5, h⟩
        | ct e5 => rw [qf] at h; exact fun σ5 R5 H5 s5 r5 => ⟨R5, e5, s1.trans (s2.trans s5), r5, h⟩
        | bk e5 => rw [qf] at h; exact fun σ5 R5 H5 s5 r5 => h σ5 R5 H5 (s1.trans (s2.trans s5)) r5
        | rt rv e5 => rw [qf] at h; exact fun v σ5 R5 H5 s5 r5 => h v σ5 R5 H5 (s1.trans (s2.trans s5)) r5
        | ex c => rw [qf] at h; exact h
        | bad => rw [qf] at h; exact h
end
end PV
namespace PV
open PySem PySem.Spec PyProof.Rows L2

def wipeE (e : Ev) : List Nat → Ev
  | [] => e
  | v :: vs => (wipeE e vs).set v .un
def restE (e1 : Ev) (e2 : Ev) : List Nat → Ev
  | [] => e2
  | v :: vs => (restE e1 e2 vs).set v (e1.at v)
theorem wipeE_len (e : Ev) : ∀ vs, (wipeE e vs).length = e.length
  | [] => rfl
  | v :: vs => by rw [wipeE, List.length_set, wipeE_len e vs]
theorem restE_len (e1 e2 : Ev) : ∀ vs, (restE e1 e2 vs).length = e2.length
  | [] => rfl
  | v :: vs => by rw [restE, List.length_set, restE_len e1 e2 vs]
theorem Ev.at_out {e : Ev} {i : Nat} (h : ¬ i < e.length) : e.at i = .un := by
  unfold Ev.at
  rw [List.getD_eq_getElem?_getD, List.getElem?_eq_none (by omega)]; rfl
theorem Ev.at_setG {e : Ev} {i j : Nat} {s : Sl} : Ev.at (e.set i s) j = if j = i ∧ i < e.length then s else e.at j := by
  by_cases hi : i < e.length
  · rw [Ev.at_set' hi]
    by_cases hj : j = i
    · rw [if_pos hj, if_pos ⟨hj, hi⟩]
    · rw [if_neg hj, if_neg fun z => hj z.1]
  · rw [List.set_eq_of_length_le (by omega), if_neg fun z => hi z.2]
theorem wipeE_at (e : Ev) : ∀ (vs : List Nat) (j : Nat), (wipeE e vs).at j = if j ∈ vs then .un else e.at j
  | [], j => by simp [wipeE]
  | v :: vs, j => by
    rw [wipeE, Ev.at_setG, wipeE_at e vs j, wipeE_len]
    by_cases hj : j = v
    · subst hj
      by_cases hv : j < e.length
      · simp [hv]
      · simp [hv, Ev.at_out hv]
    · simp [hj]
theorem restE_at (e1 e2 : Ev) (hl : e1.length = e2.length) : ∀ (vs : List Nat) (j : Nat), (restE e1 e2 vs).at j = if j ∈ vs then e1.at j else e2.at j
  | [], j => by simp [restE]
  | v :: vs, j => by
    rw [restE, Ev.at_setG, restE_at e1 e2 hl vs j, restE_len]
    by_cases hj : j = v
    · subst hj
      by_cases hv : j < e2.length
      · simp [hv]
      · have h1 : e1.at j = .un := Ev.at_out (by omega)
        have h2 : e2.at j = .un := Ev.at_out hv
        simp [hv, h1, h2]
    · simp [hj]
theorem wipe_nm {σ : L2.St} : ∀ {vs : List Nat} {j : Nat}, j ∉ vs → nm (wipe σ vs) j = nm σ j
  | [], _, _ => rfl
  | v :: vs, j, h => by
    have h1 : j ≠ v := fun z => h (by rw [z]; exact List.mem_cons_self)
    have h2 := wipe_nm (σ := σ) (vs := vs) (j := j) fun z => h (List.mem_cons_of_mem _ z)
    unfold wipe
    rw [← h2]
    unfold nm
    rw [List.getElem?_set_ne (Ne.symm h1)]
section
variable {K : Fg} {B : Bs} {R H : Hp} {σ : L2.St} {e : Ev}
theorem Rel.wipe {vs : List Nat} (r : Rel K B R σ H e) (h0 : B.io = none ∨ 0 ∉ vs) : Rel K B R (L2.wipe σ vs) H (wipeE e vs) := by
  have ow : ∀ j, ((wipeE e vs).at j).own = true → j ∉ vs ∧ (e.at j).own = true := fun j h => by
    rw [wipeE_at] at h
    by_cases hj : j ∈ vs
    · rw [if_pos hj] at h; cases h
    · rw [if_neg hj] at h; exact ⟨hj, h⟩
  refine ⟨r.sub, r.r0, fun j => ?_, fun j k a h1 h2 n1 n2 => ?_, r.h0, fun a ⟨j, h1, h2⟩ => ?_, fun a ha => ?_, r.rn, by rw [wipeE_len, wipe_length]; exact r.len⟩
  · rw [wipeE_at]
    by_cases hj : j ∈ vs
    · rw [if_pos hj]; trivial
    · rw [if_neg hj, wipe_nm hj]; exact r.sl j
  · obtain ⟨a1, a2⟩ := ow j h1
    obtain ⟨b1, b2⟩ := ow k h2
    rw [wipe_nm a1] at n1; rw [wipe_nm b1] at n2
    exact r.inj j k a a2 b2 n1 n2
  · obtain ⟨a1, a2⟩ := ow j h1
    rw [wipe_nm a1] at h2
    exact r.new a ⟨j, a2, h2⟩
  · rcases h0 with z | z
    · rw [z] at ha; cases ha
    · rw [wipe_nm z, wipeE_at, if_neg z]; exact r.pen a ha
theorem wipe_owns {vs : List Nat} {b : Addr} (h : OwnsAt (L2.wipe σ vs) (wipeE e vs) b) : OwnsAt σ e b := by
  obtain ⟨j, h1, h2⟩ := h
  rw [wipeE_at] at h1
  by_cases hj : j ∈ vs
  · rw [if_pos hj] at h1; cases h1
  · rw [if_neg hj] at h1; rw [wipe_nm hj] at h2; exact ⟨j, h1, h2⟩
/-- an object that nothing here speaks of is changed -/
theorem Rel.other {a : Addr} {o : HO} (r : Rel K B R σ H e) (h1 : R a = none) (h2 : ¬ OwnsAt σ e a) (h3 : B.H0 a = none) : Rel K B R σ (upd H a o) e where
  sub := fun b u q => by
    have ne : b ≠ a := fun z => by rw [z, h1] at q; cases q
    rw [upd_ne ne]; exact r.sub b u q
  r0 := r.r0
  sl := fun i => by
    have s := r.sl i
    cases q : e.at i with
    | un => trivial
    | sh d => rw [q] at s; exact s
    | ow ds =>
      rw [q] at s; obtain ⟨b, vs, e1, e2, e3, e4⟩ := s
      have ne : b ≠ a := fun z => h2 ⟨i, by rw [q]; rfl, by rw [← z]; exact e1⟩
      exact ⟨b, vs, e1, e2, by rw [upd_ne ne]; exact e3, e4⟩
    | od ds =>
      rw [q] at s; obtain ⟨b, vs, e1, e2, e3, e4⟩ := s
      have ne : b ≠ a := fun z => h2 ⟨i, by rw [q]; rfl, by rw [← z]; exact e1⟩
      exact ⟨b, vs, e1, e2, by rw [upd_ne ne]; exact e3, e4⟩
  inj := r.inj
  h0 := fun b u q n => by
    have ne : b ≠ a := fun z => by rw [z, h3] at q; cases q
    rw [upd_ne ne]; exact r.h0 b u q n
  new := r.new
  pen := r.pen
  rn := r.rn
  len := r.len
end

/-! ### a fence: what no name owns is kept -/
open Classical in
noncomputable def Bs.fence (B : Bs) (R : Hp) (σ : L2.St) (H : Hp) (e : Ev) : Bs := ⟨fun b => if OwnsAt σ e b then none else H b, R, B.io⟩
section
variable {K : Fg} {B : Bs} {R H R' H' : Hp} {σ σ' : L2.St} {e e' : Ev}
theorem fence_H0 {b : Addr} {o : HO} (h : H b = some o) (n : ¬ OwnsAt σ e b) : (B.fence R σ H e).H0 b = some o := by
  classical
  show (@ite _ (OwnsAt σ e b) (Classical.propDecidable _) none (H b)) = some o
  rw [if_neg n]; exact h
theorem Rel.fence (r : Rel K B R σ H e) : Rel K (B.fence R σ H e) R σ H e where
  sub := r.sub
  r0 := Same.refl _
  sl := r.sl
  inj := r.inj
  h0 := fun b o q _ => by
    have q : (@ite _ (OwnsAt σ e b) (Classical.propDecidable _) none (H b)) = some o := q
    split at q
    · cases q
    · exact q
  new := fun a h => .inl (by show (@ite _ (OwnsAt σ e a) (Classical.propDecidable _) none (H a)) = none; rw [if_pos h])
  pen := r.pen
  rn := fun b o q => .inl q
  len := r.len
theorem Rel.io_own (r : Rel K B R σ H e) {b : Addr} (h : B.io = some b) : OwnsAt σ e b := by
  obtain ⟨h1, ds, h2⟩ := r.pen b h
  exact ⟨0, by rw [h2]; rfl, h1⟩
theorem Rel.unfence (r : Rel K B R σ H e) (r' : Rel K (B.fence R σ H e) R' σ' H' e') : Rel K B R' σ' H' e' := by
  have key : ∀ b o, B.H0 b = some o → B.io ≠ some b → (B.fence R σ H e).H0 b = some o := fun b o q n => by
    refine fence_H0 (r.h0 b o q n) fun z => ?_
    rcases r.new b z with y | y
    · rw [y] at q; cases q
    · exact n y
  refine ⟨r'.sub, r.r0.trans r'.r0, r'.sl, r'.inj, fun b o q n => r'.h0 b o (key b o q n) n, fun a h => ?_, r'.pen, fun b o q => ?_, r'.len⟩
  · by_cases hi : B.io = some a
    · exact .inr hi
    · left
      rcases r'.new a h with y | y
      · cases q : B.H0 a with
        | none => rfl
        | some o => rw [key a o q hi] at y; cases y
      · exact absurd y hi
  · rcases r'.rn b o q with y | y
    · exact r.rn b o y
    · right
      cases qh : B.H0 b with
      | none => rfl
      | some o' =>
        by_cases hi : B.io = some b
        · have := (r'.own_at (r'.io_own hi)).1
          rw [q] at this; cases this
        · rw [key b o' qh hi] at y; cases y
theorem Rel.kept (r : Rel K B R σ H e) (r' : Rel K (B.fence R σ H e) R' σ' H' e') {b : Addr} {o : HO} (h : H b = some o) (n : ¬ OwnsAt σ e b) : H' b = some o :=
  r'.h0 b o (fence_H0 h n) fun z => n (r.io_own z)
theorem Rel.apart (r : Rel K B R σ H e) (r' : Rel K (B.fence R σ H e) R' σ' H' e') {b : Addr} {o : HO} (hR : R b = none) (h : H b = some o) (n : ¬ OwnsAt σ e b) : R' b = none ∧ ¬ OwnsAt σ' e' b := by
  refine ⟨?_, fun z => ?_⟩
  · cases q : R' b with
    | none => rfl
    | some o' =>
      rcases r'.rn b o' q with y | y
      · have y : R b = some o' := y
        rw [hR] at y; cases y
      · rw [fence_H0 h n] at y; cases y
  · rcases r'.new b z with y | y
    · rw [fence_H0 h n] at y; cases y
    · exact n (r.io_own y)
theorem tr_wipe {vs : List Nat} (h : Tr e e') : Tr (wipeE e vs) (wipeE e' vs) := fun i => by
  rw [wipeE_at, wipeE_at]
  by_cases hi : i ∈ vs
  · rw [if_pos hi, if_pos hi]
  · rw [if_neg hi, if_neg hi]; exact h i
theorem tr_wipeR {vs : List Nat} (h : Tr (wipeE e vs) e') : Tr (wipeE e vs) (wipeE e' vs) := fun i => by
  have h := h i
  rw [wipeE_at] at h ⊢
  rw [wipeE_at]
  by_cases hi : i ∈ vs
  · rw [if_pos hi, if_pos hi]
  · rw [if_neg hi] at h ⊢; rw [if_neg hi]; exact h
theorem tr_wipeE {vs : List Nat} (h : ∀ i, i ∉ vs → e'.at i = e.at i) : Tr (wipeE e vs) (wipeE e' vs) := fun i => by
  rw [wipeE_at, wipeE_at]
  by_cases hi : i ∈ vs
  · rw [if_pos hi, if_pos hi]
  · rw [if_neg hi, if_neg hi, h i hi]; exact Tr.refl e i
end
def unowned (e : Ev) (vs : List Nat) : Bool := vs.all fun v => !(e.at v).own
theorem unowned_at {e : Ev} {vs : List Nat} (h : unowned e vs = true) {i : Nat} (hi : i ∈ vs) : (e.at i).own = false := by
  unfold unowned at h
  rw [List.all_eq_true] at h
  simpa using h i hi
section
variable {K : Fg} {B : Bs} {R H R1 H1 : Hp} {σ : L2.St} {e1 eF : Ev} {vs : List Nat}
theorem Rel.rest (r1 : Rel K B R1 σ H1 e1) (hu : unowned e1 vs = true) (h0 : B.io = none ∨ 0 ∉ vs) (s : Same R1 R) (r : Rel K B R (L2.wipe σ vs) H eF) : Rel K B R σ H (restE e1 eF vs) := by
  have hl : e1.length = eF.length := by rw [r1.len, r.len, wipe_length]
  have ow : ∀ j, ((restE e1 eF vs).at j).own = true → j ∉ vs ∧ (eF.at j).own = true := fun j h => by
    rw [restE_at e1 eF hl] at h
    by_cases hj : j ∈ vs
    · rw [if_pos hj, unowned_at hu hj] at h; cases h
    · rw [if_neg hj] at h; exact ⟨hj, h⟩
  refine ⟨r.sub, r.r0, fun j => ?_, fun j k a h1 h2 n1 n2 => ?_, r.h0, fun a ⟨j, h1, h2⟩ => ?_, fun a ha => ?_, r.rn, by rw [restE_len, r.len, wipe_length]⟩
  · rw [restE_at e1 eF hl]
    by_cases hj : j ∈ vs
    · rw [if_pos hj]
      have s1 := r1.sl j
      have hn := unowned_at hu hj
      cases q : e1.at j with
      | un => trivial
      | sh d => rw [q] at s1; obtain ⟨v, a, b⟩ := s1; exact ⟨v, a, b.mono s⟩
      | ow ds => rw [q] at hn; cases hn
      | od ds => rw [q] at hn; cases hn
    · rw [if_neg hj, ← wipe_nm hj]; exact r.sl j
  · obtain ⟨a1, a2⟩ := ow j h1
    obtain ⟨b1, b2⟩ := ow k h2
    rw [← wipe_nm a1] at n1; rw [← wipe_nm b1] at n2
    exact r.inj j k a a2 b2 n1 n2
  · obtain ⟨a1, a2⟩ := ow j h1
    rw [← wipe_nm a1] at h2
    exact r.new a ⟨j, a2, h2⟩
  · rcases h0 with z | z
    · rw [z] at ha; cases ha
    · rw [← wipe_nm z, restE_at e1 eF hl, if_neg z]; exact r.pen a ha
theorem rest_owns {b : Addr} (hl : e1.length = eF.length) (hu : unowned e1 vs = true) (h : OwnsAt σ (restE e1 eF vs) b) : OwnsAt (L2.wipe σ vs) eF b := by
  obtain ⟨j, h1, h2⟩ := h
  rw [restE_at e1 eF hl] at h1
  by_cases hj : j ∈ vs
  · rw [if_pos hj, unowned_at hu hj] at h1; cases h1
  · rw [if_neg hj] at h1; exact ⟨j, h1, by rw [wipe_nm hj]; exact h2⟩
theorem tr_rest (hl : e1.length = eF.length) (h : Tr (wipeE e1 vs) eF) : Tr e1 (restE e1 eF vs) := fun i => by
  have h := h i
  rw [wipeE_at] at h
  rw [restE_at e1 eF hl]
  by_cases hi : i ∈ vs
  · rw [if_pos hi]; exact Tr.refl e1 i
  · rw [if_neg hi] at h ⊢; exact h
end
/-- a target leaves all other names -/
def TgOk (is : List Nat) (t : Tgt) : Prop := ∀ d e e', t d e = some e' → ∀ i, i ∉ is → e'.at i = e.at i
def TgsOk (is : List Nat) (t : Tgts) : Prop := ∀ ds e e', t ds e = some e' → ∀ i, i ∉ is → e'.at i = e.at i
theorem tgOk_name {io : Bool} {i : Nat} : TgOk [i] (tgN io i) := fun d e e' h j hj => by
  unfold tgN putN at h
  split at h
  · cases h
  · cases Option.some.inj h
    rw [Ev.at_setG, if_neg fun z => hj (by rw [z.1]; exact List.mem_singleton.mpr rfl)]
theorem tgsOk_nil : TgsOk [] tgNil := fun ds e e' h j hj => by
  unfold tgNil at h
  split at h
  · cases Option.some.inj h; rfl
  · cases h
theorem tgsOk_cons {t : Tgt} {u : Tgts} {is js : List Nat} (h1 : TgOk is t) (h2 : TgsOk js u) : TgsOk (is ++ js) (tgCons t u) := fun ds e e' h j hj => by
  unfold tgCons at h
  split at h
  · cases h
  · rename_i d r
    cases q : t d e with
    | none => rw [q] at h; cases h
    | some e1 =>
      rw [q] at h
      rw [h2 _ _ _ h j fun z => hj (List.mem_append_right _ z), h1 _ _ _ q j fun z => hj (List.mem_append_left _ z)]
theorem wipe_set {σ : L2.St} {v : Option V} : ∀ {vs : List Nat} {i : Nat}, i ∈ vs → L2.wipe (σ.set i v) vs = L2.wipe σ vs
  | w :: vs, i, h => by
    unfold L2.wipe
    rcases List.mem_cons.mp h with rfl | h
    · clear h
      by_cases hi : i ∈ vs
      · rw [wipe_set hi]
      · have key : ∀ (us : List Nat), i ∉ us → L2.wipe (σ.set i v) us = (L2.wipe σ us).set i v := by
          intro us
          induction us with
          | nil => intro _; rfl
          | cons u us ih =>
            intro hu
            unfold L2.wipe
            rw [ih fun z => hu (List.mem_cons_of_mem _ z), List.set_comm _ _ (fun z => hu (by rw [z]; exact List.mem_cons_self))]
        rw [key vs hi, List.set_set]
    · rw [wipe_set h]
theorem wipe_setAll : ∀ {is vs : List Nat} {ws : List V} {σ : L2.St}, (∀ i ∈ is, i ∈ vs) → L2.wipe (setAll is ws σ) vs = L2.wipe σ vs
  | [], _, _, _, _ => by unfold setAll; rfl
  | i :: is, vs, [], σ, h => rfl
  | i :: is, vs, w :: ws, σ, h => by
    show L2.wipe (setAll is ws (σ.set i (some w))) vs = _
    rw [wipe_setAll fun j hj => h j (List.mem_cons_of_mem _ hj), wipe_set (h i List.mem_cons_self)]
theorem wipe_wipe {σ : L2.St} {vs : List Nat} : L2.wipe (L2.wipe σ vs) vs = L2.wipe σ vs := by
  have key : ∀ (us : List Nat), (∀ u ∈ us, u ∈ vs) → L2.wipe (L2.wipe σ us) vs = L2.wipe σ vs := by
    intro us
    induction us with
    | nil => intro _; rfl
    | cons u us ih =>
      intro h
      have e : L2.wipe σ (u :: us) = (L2.wipe σ us).set u none := rfl
      rw [e, wipe_set (h u List.mem_cons_self)]
      exact ih fun w hw => h w (List.mem_cons_of_mem _ hw)
  exact key vs fun _ h => h
def lcL (io : Bool) (vs : List Nat) (t : Tgt) (g : Ev → Rs Bool) (fa : Ev → Rs Rv) : List PyData → Ev → List PyData → Rs (List PyData)
  | [], e, acc => .ok acc e
  | d :: ds, e, acc => match t d e with
    | none => .bad
    | some e1 => match g e1 with
      | .ok true e2 => (match shr io (fa e2) with
        | .ok (.sh x) e3 => if acc.length < line then lcL io vs t g fa ds (wipeE e3 vs) (acc ++ [x]) else .bad
        | _ => .bad)
      | .ok false e2 => lcL io vs t g fa ds (wipeE e2 vs) acc
      | _ => .bad
def fLc (io : Bool) (vs : List Nat) (fi : Ev → Rs (List PyData)) (t : Tgt) (g : Ev → Rs Bool) (fa : Ev → Rs Rv) (e : Ev) : Rs Rv := match fi e with
  | .ok ds e1 => if unowned e1 vs = true ∧ (io = false ∨ 0 ∉ vs) then (match lcL io vs t g fa ds (wipeE e1 vs) [] with
    | .ok acc e2 => .ok (.fl acc) (restE e1 e2 vs)
    | _ => .bad) else .bad
  | .ex c => .ex c
  | .bad => .bad
abbrev W0 : Wx := fun _ _ => False
theorem no_ex {B : Bs} {c : Str} (h : exq B W0 c) (H : Hp) (hf : ∀ b o, B.H0 b = some o → B.io ≠ some b → H b = some o) : False := h H hf
section
variable {X : Cx} {B : Bs} {W : Wx} {elt tg iter : Expr} {ifs : List Expr} {scope : Scope} {own : List (Str × Nat)} {pos : Pos} {io : Bool} {is : List Nat}
abbrev Blk (X : Cx) (scope : Scope) (s : Shared) (H : Hp) (C : Addr) (cl : List (Str × Addr)) (fp : List Addr) : Cx := X.blk s H scope (compEnvC scope cl C X.env) fp
abbrev DTs (X : Cx) (B : Bs) (W : Wx) (ifs : List Expr) (f : Ev → Rs Bool) : Prop := PTs X ifs (tT X.K B W f)
theorem dts_nil : DTs X B W [] (fun e => .ok true e) := ⟨fun pins s σ H Q I h => pts_nil.run pins s σ H Q I (tT_ret h)⟩
theorem dts_one {c : Expr} {f : Ev → Rs Bool} (h : DT X B W c f) : DTs X B W [c] f := pts_one h
def gB (K : Fg) (io : Bool) (is : List Nat) (t : Tgt) : TG := fun v σ H Q => ∃ B' : Bs, io = B'.io.isSome ∧ tG K B' is t v σ H Q
def ttB (K : Fg) (io : Bool) (g : Ev → Rs Bool) : TT := fun σ H Q => ∃ B' : Bs, io = B'.io.isSome ∧ tT K B' W0 g σ H Q
def teB (K : Fg) (io : Bool) (fa : Ev → Rs Rv) : TE := fun σ H Q => ∃ B' : Bs, io = B'.io.isSome ∧ tX K B' W0 (fun e => shr io (fa e)) σ H Q
theorem tlc_of {vs : List Nat} {fi : Ev → Rs (List PyData)} {t : Tgt} {g : Ev → Rs Bool} {fa : Ev → Rs Rv} (hio : io = B.io.isSome) (htg : TgOk is t) (his : ∀ i ∈ is, i ∈ vs) {σ : L2.St} {H : Hp} {Q : VK}
    (h : tX X.K B W (fLc io vs fi t g fa) σ H Q) : tLc (tI X.K B W fi) (gB X.K io is t) (ttB X.K io g) (teB X.K io fa) vs σ H Q := by
  obtain ⟨R, e, r, h⟩ := h
  refine ⟨R, e, r, ?_⟩
  unfold fLc at h
  cases q : fi e with
  | ex c => rw [q] at h; exact h
  | bad => rw [q] at h; exact h
  | ok ds e1 =>
    rw [q] at h
    intro J R1 H1 s1 r1 f1 t1 ij D hD
    simp only at h
    split at h
    · rename_i hcond
      obtain ⟨hun, hz⟩ := hcond
      have h0 : B.io = none ∨ 0 ∉ vs := by
        rcases hz with z | z
        · left
          cases hb : B.io with
          | none => rfl
          | some a => rw [hb] at hio; rw [hio] at z; cases z
        · exact .inr z
      have hD0 : B.H0 D = none := r1.h0n hD
      have hioD : B.io ≠ some D := fun z => by
        obtain ⟨h1, ds0, h2⟩ := r1.pen D z
        obtain ⟨_, o, h3⟩ := r1.own_at ⟨0, by rw [h2]; rfl, h1⟩
        rw [hD] at h3; cases h3
      cases ql : lcL io vs t g fa ds (wipeE e1 vs) [] with
      | ex c => rw [ql] at h; exact h.elim
      | bad => rw [ql] at h; exact h.elim
      | ok accF eF =>
        rw [ql] at h
        simp only at h
        have rw1 := r1.wipe h0
        have dn0 : ¬ OwnsAt (L2.wipe σ vs) (wipeE e1 vs) D := rw1.not_own hD
        refine ⟨fun i m H => m = ds.length - i ∧ i ≤ ds.length ∧ ∃ R2 e2 acc ws, Same R1 R2 ∧ R2 D = none ∧ Rel X.K B R2 (L2.wipe σ vs) H e2 ∧ H D = some (.lst ws) ∧ DnA X.K R2 ws acc ∧ ¬ OwnsAt (L2.wipe σ vs) e2 D ∧
            (∀ b o, H1 b = some o → ¬ OwnsAt (L2.wipe σ vs) (wipeE e1 vs) b → H b = some o) ∧ Tr (wipeE e1 vs) e2 ∧ lcL io vs t g fa (ds.drop i) e2 acc = .ok accF eF,
          ⟨_, rfl, Nat.zero_le _, R1, wipeE e1 vs, [], [], Same.refl _, r1.rnn hD, rw1.new_own hD, upd_same, .nil, dn0, fun b o hb _ => by rw [upd_ne (ne_of_none hb hD)]; exact hb, .refl _, ql⟩, ?_⟩
        rintro i m H2 ⟨rfl, hi', R2, e2, acc, ws, s2, hR2, r2, hl2, hd2, no2, fr2, tr2, q2⟩
        by_cases hlt : i < ds.length
        · have hdrop : ds.drop i = ds[i] :: ds.drop (i + 1) := List.drop_eq_getElem_cons hlt
          rw [hdrop] at q2
          simp only [lcL] at q2
          refine .inr ⟨ij.go i H2 hlt (s2.trans r2.sub), fun H => ∃ R2 e2 acc ws, Same R1 R2 ∧ R2 D = none ∧ Rel X.K B R2 (L2.wipe σ vs) H e2 ∧ H D = some (.lst ws) ∧ DnA X.K R2 ws acc ∧ ¬ OwnsAt (L2.wipe σ vs) e2 D ∧
            (∀ b o, H1 b = some o → ¬ OwnsAt (L2.wipe σ vs) (wipeE e1 vs) b → H b = some o) ∧ Tr (wipeE e1 vs) e2 ∧ lcL io vs t g fa (ds.drop (i + 1)) e2 acc = .ok accF eF, fun H' ⟨R3, e3, acc3, ws3, x⟩ => ⟨_, by omega, rfl, hlt, R3, e3, acc3, ws3, x⟩, fun x H' y => ?_⟩
          -- the item is given to the target
          have go : ∀ R3, Same R2 R3 → R3 D = none → Rel X.K B R3 (L2.wipe σ vs) H' e2 → H' D = some (.lst ws) → (∀ b o, H2 b = some o → H' b = some o) → Dn X.K R3 x ds[i] →
              ∃ B' : Bs, io = B'.io.isSome ∧ tG X.K B' is t x (L2.wipe σ vs) H' fun σ2 H2 => L2.wipe σ2 vs = L2.wipe σ vs ∧ ∃ B' : Bs, io = B'.io.isSome ∧ tT X.K B' W0 g σ2 H2 fun b H3 =>
                if b = true then ∃ B' : Bs, io = B'.io.isSome ∧ tX X.K B' W0 (fun e => shr io (fa e)) σ2 H3 fun y H4 => ∃ acc, H4 D = some (.lst acc) ∧ acc.length < sizeLine ∧ ∃ R2 e2 acc' ws', Same R1 R2 ∧ R2 D = none ∧ Rel X.K B R2 (L2.wipe σ vs) (upd H4 D (.lst (acc ++ [y]))) e2 ∧ upd H4 D (.lst (acc ++ [y])) D = some (.lst ws') ∧ DnA X.K R2 ws' acc' ∧ ¬ OwnsAt (L2.wipe σ vs) e2 D ∧
                  (∀ b o, H1 b = some o → ¬ OwnsAt (L2.wipe σ vs) (wipeE e1 vs) b → upd H4 D (.lst (acc ++ [y])) b = some o) ∧ Tr (wipeE e1 vs) e2 ∧ lcL io vs t g fa (ds.drop (i + 1)) e2 acc' = .ok accF eF
                else ∃ R2 e2 acc ws, Same R1 R2 ∧ R2 D = none ∧ Rel X.K B R2 (L2.wipe σ vs) H3 e2 ∧ H3 D = some (.lst ws) ∧ DnA X.K R2 ws acc ∧ ¬ OwnsAt (L2.wipe σ vs) e2 D ∧
                  (∀ b o, H1 b = some o → ¬ OwnsAt (L2.wipe σ vs) (wipeE e1 vs) b → H3 b = some o) ∧ Tr (wipeE e1 vs) e2 ∧ lcL io vs t g fa (ds.drop (i + 1)) e2 acc = .ok accF eF := by
            intro R3 s3 hR3 r3 hl3 kp hd
            have rg := r3.fence
            refine ⟨B.fence R3 (L2.wipe σ vs) H' e2, hio, R3, e2, ds[i], rg, hd, ?_⟩
            have no3 : ∀ b, OwnsAt (L2.wipe σ vs) e2 b → OwnsAt (L2.wipe σ vs) (wipeE e1 vs) b := fun b z => tr2.owns z
            cases qt : t ds[i] e2 with
            | none => rw [qt] at q2; cases q2
            | some e4 =>
              rw [qt] at q2
              simp only at q2 ⊢
              rintro σ4 ⟨us, hus, rfl⟩ r4
              refine ⟨(wipe_setAll his).trans wipe_wipe, B.fence R3 (L2.wipe σ vs) H' e2, hio, R3, e4, r4, ?_⟩
              have tr4 : Tr (wipeE e1 vs) (wipeE e4 vs) := (tr_wipeR tr2).trans (tr_wipeE fun i hi => htg _ _ _ qt i fun z => hi (his i z))
              have dguard : ∀ {R5 H5 e5}, Rel X.K (B.fence R3 (L2.wipe σ vs) H' e2) R5 (setAll is us (L2.wipe σ vs)) H5 e5 → R5 D = none ∧ H5 D = some (.lst ws) ∧ ¬ OwnsAt (setAll is us (L2.wipe σ vs)) e5 D := fun {R5 H5 e5} r5 =>
                ⟨(r3.apart r5 hR3 hl3 no2).1, r3.kept r5 hl3 no2, (r3.apart r5 hR3 hl3 no2).2⟩
              -- what the block's own names are, is forgotten
              have back : ∀ {R5 H5 e5}, Rel X.K (B.fence R3 (L2.wipe σ vs) H' e2) R5 (setAll is us (L2.wipe σ vs)) H5 e5 → Rel X.K B R5 (L2.wipe σ vs) H5 (wipeE e5 vs) ∧ ¬ OwnsAt (L2.wipe σ vs) (wipeE e5 vs) D := fun {R5 H5 e5} r5 => by
                have w := (r3.unfence r5).wipe h0
                rw [wipe_setAll his, wipe_wipe] at w
                refine ⟨w, fun z => ?_⟩
                have z' : OwnsAt (L2.wipe (setAll is us (L2.wipe σ vs)) vs) (wipeE e5 vs) D := by rw [wipe_setAll his, wipe_wipe]; exact z
                exact (dguard r5).2.2 (wipe_owns z')
              have fr5 : ∀ {R5 H5 e5}, Rel X.K (B.fence R3 (L2.wipe σ vs) H' e2) R5 (setAll is us (L2.wipe σ vs)) H5 e5 → ∀ b o, H1 b = some o → ¬ OwnsAt (L2.wipe σ vs) (wipeE e1 vs) b → H5 b = some o := fun {R5 H5 e5} r5 b o hb hn =>
                r3.kept r5 (kp b o (fr2 b o hb hn)) fun z => hn (no3 b z)
              show AfterB X.K _ W0 _ R3 H' e4 (g e4) _
              cases qg : g e4 with
              | ex c => rw [qg] at q2; cases q2
              | bad => rw [qg] at q2; cases q2
              | ok b e5 =>
                rw [qg] at q2
                intro R5 H5 s5 r5 f5 t5
                cases b with
                | false =>
                  rw [if_neg (fun z => nomatch z)]
                  exact ⟨R5, wipeE e5 vs, acc, ws, s2.trans (s3.trans s5), (dguard r5).1, (back r5).1, (dguard r5).2.1, DnA.mono (s3.trans s5) _ _ hd2, (back r5).2, fr5 r5, tr4.trans (tr_wipe t5), q2⟩
                | true =>
                  rw [if_pos rfl]
                  refine ⟨B.fence R3 (L2.wipe σ vs) H' e2, hio, R5, e5, r5, ?_⟩
                  show After X.K _ W0 _ R5 H5 e5 (shr io (fa e5)) _
                  simp only at q2
                  cases qa : shr io (fa e5) with
                  | ex c => rw [qa] at q2; cases q2
                  | bad => rw [qa] at q2; cases q2
                  | ok rv e6 =>
                    rw [qa] at q2
                    cases rv with
                    | fl d => cases q2
                    | fd d => cases q2
                    | sl d => cases q2
                    | sh d =>
                      simp only at q2
                      intro v R7 H7 s7 r7 f7 t7 v7
                      split at q2
                      · rename_i hlen
                        have hd7 : DnA X.K R7 ws acc := DnA.mono (s3.trans (s5.trans s7)) _ _ hd2
                        have ne : ∀ b o, H1 b = some o → b ≠ D := fun b o hb => ne_of_none hb hD
                        exact ⟨ws, (dguard r7).2.1, by rw [hd2.length, line_eq]; exact hlen, R7, wipeE e6 vs, acc ++ [d], ws ++ [v], s2.trans (s3.trans (s5.trans s7)), (dguard r7).1, (back r7).1.other (dguard r7).1 (back r7).2 hD0, upd_same, hd7.append (.cons v7 .nil), (back r7).2,
                          fun b o hb hn => by rw [upd_ne (ne b o hb)]; exact fr5 r7 b o hb hn, tr4.trans ((tr_wipe t5).trans (tr_wipe t7)), q2⟩
                      · cases q2
          rcases ij.yld i H2 x H' ds[i] R2 y (List.getElem?_eq_getElem hlt) s2 r2.sub with ⟨rfl, hd⟩ | ⟨T, o, hT, rfl, hd⟩ | ⟨T, o, U, o2, hT, hU, rfl, hd⟩
          · exact go R2 (Same.refl _) hR2 r2 hl2 (fun _ _ h => h) hd
          · have nTD : D ≠ T := ne_of_none hl2 hT
            exact go (upd R2 T o) (same_new (r2.rnn hT)) (by rw [upd_ne nTD]; exact hR2) (r2.new_sh hT) (by rw [upd_ne nTD]; exact hl2) (same_new hT) hd
          · have nTD : D ≠ T := ne_of_none hl2 hT
            have nUD : D ≠ U := ne_of_none (by rw [upd_ne nTD]; exact hl2) hU
            exact go (upd (upd R2 T o) U o2) ((same_new (r2.rnn hT)).trans (same_new ((r2.new_sh hT).rnn hU))) (by rw [upd_ne nUD, upd_ne nTD]; exact hR2) ((r2.new_sh hT).new_sh hU) (by rw [upd_ne nUD, upd_ne nTD]; exact hl2) ((same_new hT).trans (same_new hU)) hd
        · have e3 : i = ds.length := by omega
          subst e3
          rw [List.drop_length] at q2
          simp only [lcL, Rs.ok.injEq] at q2
          obtain ⟨rfl, rfl⟩ := q2
          refine .inl ⟨ij.stop H2 (s2.trans r2.sub), ?_⟩
          have hlE : e1.length = e2.length := by rw [r1.len, r2.len, wipe_length]
          exact h _ R2 H2 (s1.trans s2) (r1.rest hun h0 s2 r2) (fun b o hb hn => fr2 b o (f1 b o hb hn) fun z => hn (t1.owns (wipe_owns z))) (t1.trans (tr_rest hlE tr2)) ⟨D, ws, rfl, hR2, hl2, hd2, fun z => no2 (rest_owns hlE hun z), hD0⟩
    · exact h.elim

/-- what is run in the block -/
structure LcIs (X : Cx) (B : Bs) (W : Wx) (io : Bool) (elt tg iter : Expr) (ifs : List Expr) (scope : Scope) (own : List (Str × Nat)) (is : List Nat) (fi : Ev → Rs (List PyData)) (t : Tgt) (g : Ev → Rs Bool) (fa : Ev → Rs Rv) : Prop where
  htg : TgOk is t
  hi : DI X B W tg iter fi
  ok : BlkOk X.N X.env.scope scope own
  his : ∀ i ∈ is, i ∈ own.map (·.2)
  hg : ∀ B' : Bs, io = B'.io.isSome → ∀ (s : Shared) (H : Hp) (C : Addr) (cl : List (Str × Addr)) (fp : List Addr), PG (Blk X scope s H C cl fp) tg (tG X.K B' is t)
  ht : ∀ B' : Bs, io = B'.io.isSome → ∀ (s : Shared) (H : Hp) (C : Addr) (cl : List (Str × Addr)) (fp : List Addr), PTs (Blk X scope s H C cl fp) ifs (tT X.K B' W0 g)
  he : ∀ B' : Bs, io = B'.io.isSome → ∀ (s : Shared) (H : Hp) (C : Addr) (cl : List (Str × Addr)) (fp : List Addr), PE (Blk X scope s H C cl fp) elt (tX X.K B' W0 fa)
  hs : ∀ x, foldedSetIterable iter X.env x = pure x
theorem LcIs.gE {fi : Ev → Rs (List PyData)} {t : Tgt} {g : Ev → Rs Bool} {fa : Ev → Rs Rv} (L : LcIs X B W io elt tg iter ifs scope own is fi t g fa) : ∀ (s : Shared) (H : Hp) (C : Addr) (cl : List (Str × Addr)) (fp : List Addr), PG (Blk X scope s H C cl fp) tg (gB X.K io is t) := fun s H C cl fp =>
  ⟨fun pins s' σ H' v u Q I r ⟨B', hb, q⟩ => (L.hg B' hb s H C cl fp).run pins s' σ H' v u Q I r q⟩
theorem LcIs.tE {fi : Ev → Rs (List PyData)} {t : Tgt} {g : Ev → Rs Bool} {fa : Ev → Rs Rv} (L : LcIs X B W io elt tg iter ifs scope own is fi t g fa) : ∀ (s : Shared) (H : Hp) (C : Addr) (cl : List (Str × Addr)) (fp : List Addr), PTs (Blk X scope s H C cl fp) ifs (ttB X.K io g) := fun s H C cl fp =>
  ⟨fun pins s' σ H' Q I ⟨B', hb, q⟩ => (L.ht B' hb s H C cl fp).run pins s' σ H' Q I q⟩
theorem LcIs.eE {fi : Ev → Rs (List PyData)} {t : Tgt} {g : Ev → Rs Bool} {fa : Ev → Rs Rv} (L : LcIs X B W io elt tg iter ifs scope own is fi t g fa) : ∀ (s : Shared) (H : Hp) (C : Addr) (cl : List (Str × Addr)) (fp : List Addr), PE (Blk X scope s H C cl fp) elt (teB X.K io fa) := fun s H C cl fp =>
  ⟨fun pins s' σ H' Q I ⟨B', hb, q⟩ => (dx_share (X := Blk X scope s H C cl fp) hb (L.he B' hb s H C cl fp)).run pins s' σ H' Q I q⟩
theorem dx_lc {fi : Ev → Rs (List PyData)} {t : Tgt} {g : Ev → Rs Bool} {fa : Ev → Rs Rv} (hio : io = B.io.isSome) (hc : X.calm = true) (hN : X.N.Nodup) (L : LcIs X B W io elt tg iter ifs scope own is fi t g fa) :
    DX X B W (.ListComp elt [⟨tg, iter, ifs, 0⟩] scope pos) (fLc io (own.map (·.2)) fi t g fa) :=
  pe_imp (pe_lc hc hN L.hi L.ok L.gE L.tE L.eE L.hs) fun σ H Q h => tlc_of hio L.htg L.his h
/-- name = [..] on one line -/
theorem ds_setLc {i : Nat} {y : Str} {py spos : Pos} {fi : Ev → Rs (List PyData)} {t : Tgt} {g : Ev → Rs Bool} {fa : Ev → Rs Rv} (hio : io = B.io.isSome) (hc : X.calm = true) (hN : X.N.Nodup) (hy : X.N[i]? = some y) (hyl : X.env.scope.names.lookup y = some .local)
    (hsw : swapsWith (.ListComp elt [⟨tg, iter, ifs, 0⟩] scope pos) (some (.Name y py)) spos.line X.env = pure true) (L : LcIs X B W io elt tg iter ifs scope own is fi t g fa) :
    DS X B W (.Assign [.Name y py] (.ListComp elt [⟨tg, iter, ifs, 0⟩] scope pos) spos) (fAsg io i (fLc io (own.map (·.2)) fi t g fa)) :=
  ps_imp (ps_setLc hc hN hy hyl hsw L.hi L.ok L.gE L.tE L.eE L.hs) fun D σ H h => by
    have h := asg_of (fa := fLc io (own.map (·.2)) fi t g fa) hio h
    exact tlc_of hio L.htg L.his h
end
end PV
namespace PV
open PySem PySem.Spec PyProof.Rows L2

theorem wipe_sub {σ : L2.St} {vs : List Nat} : ∀ (us : List Nat), (∀ u ∈ us, u ∈ vs) → L2.wipe (L2.wipe σ us) vs = L2.wipe σ vs
  | [], _ => rfl
  | u :: us, h => by
    have e : L2.wipe σ (u :: us) = (L2.wipe σ us).set u none := rfl
    rw [e, wipe_set (h u List.mem_cons_self)]
    exact wipe_sub us fun w hw => h w (List.mem_cons_of_mem _ hw)
theorem Rel.apart2 {K : Fg} {B : Bs} {R H R' H' : Hp} {σ σ' : L2.St} {e e' : Ev} (r : Rel K B R σ H e) (r' : Rel K (B.fence R σ H e) R' σ' H' e') {b : Addr} {o : HO} (h : H b = some o) (n : ¬ OwnsAt σ e b) : ¬ OwnsAt σ' e' b := fun z => by
  rcases r'.new b z with y | y
  · rw [fence_H0 h n] at y; cases y
  · exact n (r.io_own y)
def lcL2 (io : Bool) (vs vs1 : List Nat) (t : Tgt) (g : Ev → Rs Bool) (fi1 : Ev → Rs (List PyData)) (t1 : Tgt) (g1 : Ev → Rs Bool) (fa : Ev → Rs Rv) : List PyData → Ev → List PyData → Rs (List PyData)
  | [], e, acc => .ok acc e
  | d :: ds, e, acc => match t d e with
    | none => .bad
    | some e1 => match g e1 with
      | .ok true e2 => (match fi1 e2 with
        | .ok ds1 e3 => (match lcL io vs1 t1 g1 fa ds1 (wipeE e3 vs1) acc with
          | .ok acc2 e4 => lcL2 io vs vs1 t g fi1 t1 g1 fa ds (wipeE e4 vs) acc2
          | _ => .bad)
        | _ => .bad)
      | .ok false e2 => lcL2 io vs vs1 t g fi1 t1 g1 fa ds (wipeE e2 vs) acc
      | _ => .bad
def fLc2 (io : Bool) (vs vs1 : List Nat) (fi : Ev → Rs (List PyData)) (t : Tgt) (g : Ev → Rs Bool) (fi1 : Ev → Rs (List PyData)) (t1 : Tgt) (g1 : Ev → Rs Bool) (fa : Ev → Rs Rv) (e : Ev) : Rs Rv := match fi e with
  | .ok ds e1 => if unowned e1 vs = true ∧ (io = false ∨ 0 ∉ vs) then (match lcL2 io vs vs1 t g fi1 t1 g1 fa ds (wipeE e1 vs) [] with
    | .ok acc e2 => .ok (.fl acc) (restE e1 e2 vs)
    | _ => .bad) else .bad
  | .ex c => .ex c
  | .bad => .bad
def tiB (K : Fg) (io : Bool) (fi : Ev → Rs (List PyData)) : TI := fun σ H Q => ∃ B' : Bs, io = B'.io.isSome ∧ tI K B' W0 fi σ H Q
section
variable {K : Fg} {B : Bs} {io : Bool} {is vs : List Nat}
/-- the inner walk -/
theorem lc_in {t : Tgt} {g : Ev → Rs Bool} {fa : Ev → Rs Rv} {J : It} {ds ws1 : List _} {R1 H1 : Hp} {σ1 : L2.St} {e1 eF : Ev} {D : Addr} {acc1 accF : List PyData} (hio : io = B.io.isSome) (htg : TgOk is t) (his : ∀ i ∈ is, i ∈ vs) (h0 : B.io = none ∨ 0 ∉ vs) (hD0 : B.H0 D = none)
    (r1 : Rel K B R1 σ1 H1 e1) (hR1 : R1 D = none) (hl1 : H1 D = some (.lst ws1)) (hd1 : DnA K R1 ws1 acc1) (no1 : ¬ OwnsAt σ1 e1 D) (ij : ItOk K R1 J ds) (ql : lcL io vs t g fa ds (wipeE e1 vs) acc1 = .ok accF eF) {Q : Hp → Prop}
    (h : ∀ R2 H2 ws, Same R1 R2 → Rel K B R2 (L2.wipe σ1 vs) H2 eF → R2 D = none → H2 D = some (.lst ws) → DnA K R2 ws accF → ¬ OwnsAt (L2.wipe σ1 vs) eF D → (∀ b o, b ≠ D → H1 b = some o → ¬ OwnsAt (L2.wipe σ1 vs) (wipeE e1 vs) b → H2 b = some o) → Tr (wipeE e1 vs) eF → Q H2) :
    ∃ W : Nat → Nat → Hp → Prop, (∃ m, W 0 m H1) ∧ ∀ i m H, W i m H → (J.stop i H ∧ Q H) ∨ (J.go i H ∧ ∃ Nx : Hp → Prop, (∀ H', Nx H' → ∃ m', m' < m ∧ W (i + 1) m' H') ∧ ∀ x H', J.yld i H x H' → gB K io is t x (L2.wipe σ1 vs) H' fun σ2 H2 => L2.wipe σ2 vs = L2.wipe σ1 vs ∧ ttB K io g σ2 H2 fun b H3 =>
      if b = true then teB K io fa σ2 H3 fun y H4 => ∃ acc, H4 D = some (.lst acc) ∧ acc.length < sizeLine ∧ Nx (upd H4 D (.lst (acc ++ [y]))) else Nx H3) := by
  have rw1 := r1.wipe h0
  have dn0 : ¬ OwnsAt (L2.wipe σ1 vs) (wipeE e1 vs) D := fun z => no1 (wipe_owns z)
  refine ⟨fun i m H => m = ds.length - i ∧ i ≤ ds.length ∧ ∃ R2 e2 acc ws, Same R1 R2 ∧ R2 D = none ∧ Rel K B R2 (L2.wipe σ1 vs) H e2 ∧ H D = some (.lst ws) ∧ DnA K R2 ws acc ∧ ¬ OwnsAt (L2.wipe σ1 vs) e2 D ∧
      (∀ b o, b ≠ D → H1 b = some o → ¬ OwnsAt (L2.wipe σ1 vs) (wipeE e1 vs) b → H b = some o) ∧ Tr (wipeE e1 vs) e2 ∧ lcL io vs t g fa (ds.drop i) e2 acc = .ok accF eF,
    ⟨_, rfl, Nat.zero_le _, R1, wipeE e1 vs, acc1, ws1, Same.refl _, hR1, rw1, hl1, hd1, dn0, fun b o _ hb _ => hb, .refl _, ql⟩, ?_⟩
  rintro i m H2 ⟨rfl, hi', R2, e2, acc, ws, s2, hR2, r2, hl2, hd2, no2, fr2, tr2, q2⟩
  by_cases hlt : i < ds.length
  · have hdrop : ds.drop i = ds[i] :: ds.drop (i + 1) := List.drop_eq_getElem_cons hlt
    rw [hdrop] at q2
    simp only [lcL] at q2
    refine .inr ⟨ij.go i H2 hlt (s2.trans r2.sub), fun H => ∃ R2 e2 acc ws, Same R1 R2 ∧ R2 D = none ∧ Rel K B R2 (L2.wipe σ1 vs) H e2 ∧ H D = some (.lst ws) ∧ DnA K R2 ws acc ∧ ¬ OwnsAt (L2.wipe σ1 vs) e2 D ∧
      (∀ b o, b ≠ D → H1 b = some o → ¬ OwnsAt (L2.wipe σ1 vs) (wipeE e1 vs) b → H b = some o) ∧ Tr (wipeE e1 vs) e2 ∧ lcL io vs t g fa (ds.drop (i + 1)) e2 acc = .ok accF eF, fun H' ⟨R3, e3, acc3, ws3, x⟩ => ⟨_, by omega, rfl, hlt, R3, e3, acc3, ws3, x⟩, fun x H' y => ?_⟩
    have go : ∀ R3, Same R2 R3 → R3 D = none → Rel K B R3 (L2.wipe σ1 vs) H' e2 → H' D = some (.lst ws) → (∀ b o, H2 b = some o → H' b = some o) → Dn K R3 x ds[i] →
        ∃ B' : Bs, io = B'.io.isSome ∧ tG K B' is t x (L2.wipe σ1 vs) H' fun σ2 H2 => L2.wipe σ2 vs = L2.wipe σ1 vs ∧ ∃ B' : Bs, io = B'.io.isSome ∧ tT K B' W0 g σ2 H2 fun b H3 =>
          if b = true then ∃ B' : Bs, io = B'.io.isSome ∧ tX K B' W0 (fun e => shr io (fa e)) σ2 H3 fun y H4 => ∃ acc, H4 D = some (.lst acc) ∧ acc.length < sizeLine ∧ ∃ R2 e2 acc' ws', Same R1 R2 ∧ R2 D = none ∧ Rel K B R2 (L2.wipe σ1 vs) (upd H4 D (.lst (acc ++ [y]))) e2 ∧ upd H4 D (.lst (acc ++ [y])) D = some (.lst ws') ∧ DnA K R2 ws' acc' ∧ ¬ OwnsAt (L2.wipe σ1 vs) e2 D ∧
            (∀ b o, b ≠ D → H1 b = some o → ¬ OwnsAt (L2.wipe σ1 vs) (wipeE e1 vs) b → upd H4 D (.lst (acc ++ [y])) b = some o) ∧ Tr (wipeE e1 vs) e2 ∧ lcL io vs t g fa (ds.drop (i + 1)) e2 acc' = .ok accF eF
          else ∃ R2 e2 acc ws, Same R1 R2 ∧ R2 D = none ∧ Rel K B R2 (L2.wipe σ1 vs) H3 e2 ∧ H3 D = some (.lst ws) ∧ DnA K R2 ws acc ∧ ¬ OwnsAt (L2.wipe σ1 vs) e2 D ∧
            (∀ b o, b ≠ D → H1 b = some o → ¬ OwnsAt (L2.wipe σ1 vs) (wipeE e1 vs) b → H3 b = some o) ∧ Tr (wipeE e1 vs) e2 ∧ lcL io vs t g fa (ds.drop (i + 1)) e2 acc = .ok accF eF := by
      intro R3 s3 hR3 r3 hl3 kp hd
      have rg := r3.fence
      refine ⟨B.fence R3 (L2.wipe σ1 vs) H' e2, hio, R3, e2, ds[i], rg, hd, ?_⟩
      have no3 : ∀ b, OwnsAt (L2.wipe σ1 vs) e2 b → OwnsAt (L2.wipe σ1 vs) (wipeE e1 vs) b := fun b z => tr2.owns z
      cases qt : t ds[i] e2 with
      | none => rw [qt] at q2; cases q2
      | some e4 =>
        rw [qt] at q2
        simp only at q2 ⊢
        rintro σ4 ⟨us, hus, rfl⟩ r4
        refine ⟨(wipe_setAll his).trans wipe_wipe, B.fence R3 (L2.wipe σ1 vs) H' e2, hio, R3, e4, r4, ?_⟩
        have tr4 : Tr (wipeE e1 vs) (wipeE e4 vs) := (tr_wipeR tr2).trans (tr_wipeE fun i hi => htg _ _ _ qt i fun z => hi (his i z))
        have dguard : ∀ {R5 H5 e5}, Rel K (B.fence R3 (L2.wipe σ1 vs) H' e2) R5 (setAll is us (L2.wipe σ1 vs)) H5 e5 → R5 D = none ∧ H5 D = some (.lst ws) ∧ ¬ OwnsAt (setAll is us (L2.wipe σ1 vs)) e5 D := fun {R5 H5 e5} r5 =>
          ⟨(r3.apart r5 hR3 hl3 no2).1, r3.kept r5 hl3 no2, (r3.apart r5 hR3 hl3 no2).2⟩
        have back : ∀ {R5 H5 e5}, Rel K (B.fence R3 (L2.wipe σ1 vs) H' e2) R5 (setAll is us (L2.wipe σ1 vs)) H5 e5 → Rel K B R5 (L2.wipe σ1 vs) H5 (wipeE e5 vs) ∧ ¬ OwnsAt (L2.wipe σ1 vs) (wipeE e5 vs) D := fun {R5 H5 e5} r5 => by
          have w := (r3.unfence r5).wipe h0
          rw [wipe_setAll his, wipe_wipe] at w
          refine ⟨w, fun z => ?_⟩
          have z' : OwnsAt (L2.wipe (setAll is us (L2.wipe σ1 vs)) vs) (wipeE e5 vs) D := by rw [wipe_setAll his, wipe_wipe]; exact z
          exact (dguard r5).2.2 (wipe_owns z')
        have fr5 : ∀ {R5 H5 e5}, Rel K (B.fence R3 (L2.wipe σ1 vs) H' e2) R5 (setAll is us (L2.wipe σ1 vs)) H5 e5 → ∀ b o, b ≠ D → H1 b = some o → ¬ OwnsAt (L2.wipe σ1 vs) (wipeE e1 vs) b → H5 b = some o := fun {R5 H5 e5} r5 b o hbD hb hn =>
          r3.kept r5 (kp b o (fr2 b o hbD hb hn)) fun z => hn (no3 b z)
        show AfterB K _ W0 _ R3 H' e4 (g e4) _
        cases qg : g e4 with
        | ex c => rw [qg] at q2; cases q2
        | bad => rw [qg] at q2; cases q2
        | ok b e5 =>
          rw [qg] at q2
          intro R5 H5 s5 r5 f5 t5
          cases b with
          | false =>
            rw [if_neg (fun z => nomatch z)]
            exact ⟨R5, wipeE e5 vs, acc, ws, s2.trans (s3.trans s5), (dguard r5).1, (back r5).1, (dguard r5).2.1, DnA.mono (s3.trans s5) _ _ hd2, (back r5).2, fr5 r5, tr4.trans (tr_wipe t5), q2⟩
          | true =>
            rw [if_pos rfl]
            refine ⟨B.fence R3 (L2.wipe σ1 vs) H' e2, hio, R5, e5, r5, ?_⟩
            show After K _ W0 _ R5 H5 e5 (shr io (fa e5)) _
            simp only at q2
            cases qa : shr io (fa e5) with
            | ex c => rw [qa] at q2; cases q2
            | bad => rw [qa] at q2; cases q2
            | ok rv e6 =>
              rw [qa] at q2
              cases rv with
              | fl d => cases q2
              | fd d => cases q2
              | sl d => cases q2
              | sh d =>
                simp only at q2
                intro v R7 H7 s7 r7 f7 t7 v7
                split at q2
                · rename_i hlen
                  have hd7 : DnA K R7 ws acc := DnA.mono (s3.trans (s5.trans s7)) _ _ hd2
                  exact ⟨ws, (dguard r7).2.1, by rw [hd2.length, line_eq]; exact hlen, R7, wipeE e6 vs, acc ++ [d], ws ++ [v], s2.trans (s3.trans (s5.trans s7)), (dguard r7).1, (back r7).1.other (dguard r7).1 (back r7).2 hD0, upd_same, hd7.append (.cons v7 .nil), (back r7).2,
                    fun b o hbD hb hn => by rw [upd_ne hbD]; exact fr5 r7 b o hbD hb hn, tr4.trans ((tr_wipe t5).trans (tr_wipe t7)), q2⟩
                · cases q2
    rcases ij.yld i H2 x H' ds[i] R2 y (List.getElem?_eq_getElem hlt) s2 r2.sub with ⟨rfl, hd⟩ | ⟨T, o, hT, rfl, hd⟩ | ⟨T, o, U, o2, hT, hU, rfl, hd⟩
    · exact go R2 (Same.refl _) hR2 r2 hl2 (fun _ _ h => h) hd
    · have nTD : D ≠ T := ne_of_none hl2 hT
      exact go (upd R2 T o) (same_new (r2.rnn hT)) (by rw [upd_ne nTD]; exact hR2) (r2.new_sh hT) (by rw [upd_ne nTD]; exact hl2) (same_new hT) hd
    · have nTD : D ≠ T := ne_of_none hl2 hT
      have nUD : D ≠ U := ne_of_none (by rw [upd_ne nTD]; exact hl2) hU
      exact go (upd (upd R2 T o) U o2) ((same_new (r2.rnn hT)).trans (same_new ((r2.new_sh hT).rnn hU))) (by rw [upd_ne nUD, upd_ne nTD]; exact hR2) ((r2.new_sh hT).new_sh hU) (by rw [upd_ne nUD, upd_ne nTD]; exact hl2) ((same_new hT).trans (same_new hU)) hd
  · have e3 : i = ds.length := by omega
    subst e3
    rw [List.drop_length] at q2
    simp only [lcL, Rs.ok.injEq] at q2
    obtain ⟨rfl, rfl⟩ := q2
    exact .inl ⟨ij.stop H2 (s2.trans r2.sub), h R2 H2 ws s2 r2 hR2 hl2 hd2 no2 fr2 tr2⟩
end
section
variable {X : Cx} {B : Bs} {W : Wx} {elt tg iter tg1 iter1 : Expr} {ifs ifs1 : List Expr} {scope : Scope} {own : List (Str × Nat)} {pos : Pos} {io : Bool} {is is1 : List Nat}
theorem tlc2_of {vs vs1 : List Nat} {fi fi1 : Ev → Rs (List PyData)} {t t1 : Tgt} {g g1 : Ev → Rs Bool} {fa : Ev → Rs Rv} (hio : io = B.io.isSome) (htg : TgOk is t) (his : ∀ i ∈ is, i ∈ vs) (htg1 : TgOk is1 t1) (his1 : ∀ i ∈ is1, i ∈ vs1) (hv : ∀ i ∈ vs1, i ∈ vs) {σ : L2.St} {H : Hp} {Q : VK}
    (h : tX X.K B W (fLc2 io vs vs1 fi t g fi1 t1 g1 fa) σ H Q) : tLc2 (tI X.K B W fi) (gB X.K io is t) (ttB X.K io g) (tiB X.K io fi1) (gB X.K io is1 t1) (ttB X.K io g1) (teB X.K io fa) vs vs1 σ H Q := by
  obtain ⟨R, e, r, h⟩ := h
  refine ⟨R, e, r, ?_⟩
  unfold fLc2 at h
  cases q : fi e with
  | ex c => rw [q] at h; exact h
  | bad => rw [q] at h; exact h
  | ok ds e1 =>
    rw [q] at h
    intro J R1 H1 s1 r1 f1 tr1 ij D hD
    simp only at h
    split at h
    · rename_i hcond
      obtain ⟨hun, hz⟩ := hcond
      have h0 : B.io = none ∨ 0 ∉ vs := by
        rcases hz with z | z
        · left
          cases hb : B.io with
          | none => rfl
          | some a => rw [hb] at hio; rw [hio] at z; cases z
        · exact .inr z
      have h01 : B.io = none ∨ 0 ∉ vs1 := h0.imp id fun z y => z (hv _ y)
      have hD0 : B.H0 D = none := r1.h0n hD
      cases ql : lcL2 io vs vs1 t g fi1 t1 g1 fa ds (wipeE e1 vs) [] with
      | ex c => rw [ql] at h; exact h.elim
      | bad => rw [ql] at h; exact h.elim
      | ok accF eF =>
        rw [ql] at h
        simp only at h
        have rw1 := r1.wipe h0
        have dn0 : ¬ OwnsAt (L2.wipe σ vs) (wipeE e1 vs) D := rw1.not_own hD
        refine ⟨fun i m H => m = ds.length - i ∧ i ≤ ds.length ∧ ∃ R2 e2 acc ws, Same R1 R2 ∧ R2 D = none ∧ Rel X.K B R2 (L2.wipe σ vs) H e2 ∧ H D = some (.lst ws) ∧ DnA X.K R2 ws acc ∧ ¬ OwnsAt (L2.wipe σ vs) e2 D ∧
            (∀ b o, H1 b = some o → ¬ OwnsAt (L2.wipe σ vs) (wipeE e1 vs) b → H b = some o) ∧ Tr (wipeE e1 vs) e2 ∧ lcL2 io vs vs1 t g fi1 t1 g1 fa (ds.drop i) e2 acc = .ok accF eF,
          ⟨_, rfl, Nat.zero_le _, R1, wipeE e1 vs, [], [], Same.refl _, r1.rnn hD, rw1.new_own hD, upd_same, .nil, dn0, fun b o hb _ => by rw [upd_ne (ne_of_none hb hD)]; exact hb, .refl _, ql⟩, ?_⟩
        rintro i m H2 ⟨rfl, hi', R2, e2, acc, ws, s2, hR2, r2, hl2, hd2, no2, fr2, tr2, q2⟩
        by_cases hlt : i < ds.length
        · have hdrop : ds.drop i = ds[i] :: ds.drop (i + 1) := List.drop_eq_getElem_cons hlt
          rw [hdrop] at q2
          simp only [lcL2] at q2
          refine .inr ⟨ij.go i H2 hlt (s2.trans r2.sub), fun H => ∃ R2 e2 acc ws, Same R1 R2 ∧ R2 D = none ∧ Rel X.K B R2 (L2.wipe σ vs) H e2 ∧ H D = some (.lst ws) ∧ DnA X.K R2 ws acc ∧ ¬ OwnsAt (L2.wipe σ vs) e2 D ∧
            (∀ b o, H1 b = some o → ¬ OwnsAt (L2.wipe σ vs) (wipeE e1 vs) b → H b = some o) ∧ Tr (wipeE e1 vs) e2 ∧ lcL2 io vs vs1 t g fi1 t1 g1 fa (ds.drop (i + 1)) e2 acc = .ok accF eF, fun H' ⟨R3, e3, acc3, ws3, x⟩ => ⟨_, by omega, rfl, hlt, R3, e3, acc3, ws3, x⟩, fun x H' y => ?_⟩
          -- the item is given to the target
          have go : ∀ R3, Same R2 R3 → R3 D = none → Rel X.K B R3 (L2.wipe σ vs) H' e2 → H' D = some (.lst ws) → (∀ b o, H2 b = some o → H' b = some o) → Dn X.K R3 x ds[i] →
              gB X.K io is t x (L2.wipe σ vs) H' fun σ2 H2 => L2.wipe σ2 vs = L2.wipe σ vs ∧ ttB X.K io g σ2 H2 fun b H3 => if b = true then tiB X.K io fi1 σ2 H3 fun J1 H4 => ∃ W1 : Nat → Nat → Hp → Prop, (∃ m, W1 0 m H4) ∧ ∀ j k H, W1 j k H → (J1.stop j H ∧ (fun H => ∃ R2 e2 acc ws, Same R1 R2 ∧ R2 D = none ∧ Rel X.K B R2 (L2.wipe σ vs) H e2 ∧ H D = some (.lst ws) ∧ DnA X.K R2 ws acc ∧ ¬ OwnsAt (L2.wipe σ vs) e2 D ∧
                    (∀ b o, H1 b = some o → ¬ OwnsAt (L2.wipe σ vs) (wipeE e1 vs) b → H b = some o) ∧ Tr (wipeE e1 vs) e2 ∧ lcL2 io vs vs1 t g fi1 t1 g1 fa (ds.drop (i + 1)) e2 acc = .ok accF eF) H) ∨ (J1.go j H ∧ ∃ Nx1 : Hp → Prop, (∀ H', Nx1 H' → ∃ k', k' < k ∧ W1 (j + 1) k' H') ∧ ∀ x H', J1.yld j H x H' → gB X.K io is1 t1 x (L2.wipe σ2 vs1) H' fun σ3 H5 => L2.wipe σ3 vs1 = L2.wipe σ2 vs1 ∧ ttB X.K io g1 σ3 H5 fun b H6 =>
                      if b = true then teB X.K io fa σ3 H6 fun y H7 => ∃ acc, H7 D = some (.lst acc) ∧ acc.length < sizeLine ∧ Nx1 (upd H7 D (.lst (acc ++ [y]))) else Nx1 H6)
                else (fun H => ∃ R2 e2 acc ws, Same R1 R2 ∧ R2 D = none ∧ Rel X.K B R2 (L2.wipe σ vs) H e2 ∧ H D = some (.lst ws) ∧ DnA X.K R2 ws acc ∧ ¬ OwnsAt (L2.wipe σ vs) e2 D ∧
                    (∀ b o, H1 b = some o → ¬ OwnsAt (L2.wipe σ vs) (wipeE e1 vs) b → H b = some o) ∧ Tr (wipeE e1 vs) e2 ∧ lcL2 io vs vs1 t g fi1 t1 g1 fa (ds.drop (i + 1)) e2 acc = .ok accF eF) H3 := by
            intro R3 s3 hR3 r3 hl3 kp hd
            have rg := r3.fence
            refine ⟨B.fence R3 (L2.wipe σ vs) H' e2, hio, R3, e2, ds[i], rg, hd, ?_⟩
            have no3 : ∀ b, OwnsAt (L2.wipe σ vs) e2 b → OwnsAt (L2.wipe σ vs) (wipeE e1 vs) b := fun b z => tr2.owns z
            cases qt : t ds[i] e2 with
            | none => rw [qt] at q2; cases q2
            | some e4 =>
              rw [qt] at q2
              simp only at q2 ⊢
              rintro σ4 ⟨us, hus, rfl⟩ r4
              refine ⟨(wipe_setAll his).trans wipe_wipe, B.fence R3 (L2.wipe σ vs) H' e2, hio, R3, e4, r4, ?_⟩
              have tr4 : Tr (wipeE e1 vs) (wipeE e4 vs) := (tr_wipeR tr2).trans (tr_wipeE fun i hi => htg _ _ _ qt i fun z => hi (his i z))
              have dguard : ∀ {R5 H5 e5}, Rel X.K (B.fence R3 (L2.wipe σ vs) H' e2) R5 (setAll is us (L2.wipe σ vs)) H5 e5 → R5 D = none ∧ H5 D = some (.lst ws) ∧ ¬ OwnsAt (setAll is us (L2.wipe σ vs)) e5 D := fun {R5 H5 e5} r5 =>
                ⟨(r3.apart r5 hR3 hl3 no2).1, r3.kept r5 hl3 no2, (r3.apart r5 hR3 hl3 no2).2⟩
              have back : ∀ {R5 H5 e5}, Rel X.K (B.fence R3 (L2.wipe σ vs) H' e2) R5 (setAll is us (L2.wipe σ vs)) H5 e5 → Rel X.K B R5 (L2.wipe σ vs) H5 (wipeE e5 vs) ∧ ¬ OwnsAt (L2.wipe σ vs) (wipeE e5 vs) D := fun {R5 H5 e5} r5 => by
                have w := (r3.unfence r5).wipe h0
                rw [wipe_setAll his, wipe_wipe] at w
                refine ⟨w, fun z => ?_⟩
                have z' : OwnsAt (L2.wipe (setAll is us (L2.wipe σ vs)) vs) (wipeE e5 vs) D := by rw [wipe_setAll his, wipe_wipe]; exact z
                exact (dguard r5).2.2 (wipe_owns z')
              have fr5 : ∀ {R5 H5 e5}, Rel X.K (B.fence R3 (L2.wipe σ vs) H' e2) R5 (setAll is us (L2.wipe σ vs)) H5 e5 → ∀ b o, H1 b = some o → ¬ OwnsAt (L2.wipe σ vs) (wipeE e1 vs) b → H5 b = some o := fun {R5 H5 e5} r5 b o hb hn =>
                r3.kept r5 (kp b o (fr2 b o hb hn)) fun z => hn (no3 b z)
              show AfterB X.K _ W0 _ R3 H' e4 (g e4) _
              cases qg : g e4 with
              | ex c => rw [qg] at q2; cases q2
              | bad => rw [qg] at q2; cases q2
              | ok b e5 =>
                rw [qg] at q2
                intro R5 H5 s5 r5 f5 t5
                cases b with
                | false =>
                  rw [if_neg (fun z => nomatch z)]
                  exact ⟨R5, wipeE e5 vs, acc, ws, s2.trans (s3.trans s5), (dguard r5).1, (back r5).1, (dguard r5).2.1, DnA.mono (s3.trans s5) _ _ hd2, (back r5).2, fr5 r5, tr4.trans (tr_wipe t5), q2⟩
                | true =>
                  rw [if_pos rfl]
                  refine ⟨B.fence R3 (L2.wipe σ vs) H' e2, hio, R5, e5, r5, ?_⟩
                  show AfterI X.K _ W0 _ R5 H5 e5 (fi1 e5) _
                  simp only at q2
                  cases qa : fi1 e5 with
                  | ex c => rw [qa] at q2; cases q2
                  | bad => rw [qa] at q2; cases q2
                  | ok ds1 e6 =>
                    rw [qa] at q2
                    simp only at q2
                    intro J1 R7 H7 s7 r7 f7 t7 ij1
                    cases qi : lcL io vs1 t1 g1 fa ds1 (wipeE e6 vs1) acc with
                    | ex c => rw [qi] at q2; cases q2
                    | bad => rw [qi] at q2; cases q2
                    | ok acc8 e8 =>
                      rw [qi] at q2
                      simp only at q2
                      refine lc_in hio htg1 his1 h01 hD0 (r3.unfence r7) (dguard r7).1 (dguard r7).2.1 (DnA.mono (s3.trans (s5.trans s7)) _ _ hd2) (dguard r7).2.2 ij1 qi fun R9 H9 ws9 s9 r9 hR9 hl9 hd9 no9 fr9 tr9 => ?_
                      have ew : L2.wipe (L2.wipe (setAll is us (L2.wipe σ vs)) vs1) vs = L2.wipe σ vs := by rw [wipe_sub vs1 hv, wipe_setAll his, wipe_wipe]
                      have w9 := r9.wipe h0
                      rw [ew] at w9
                      have eww : ∀ e : Ev, wipeE (wipeE e vs1) vs = wipeE e vs := fun e => by
                        apply List.ext_getElem?
                        intro j
                        by_cases hj : j < e.length
                        · have a1 := wipeE_at (wipeE e vs1) vs j
                          have a2 := wipeE_at e vs j
                          have a3 := wipeE_at e vs1 j
                          have l1 : j < (wipeE (wipeE e vs1) vs).length := by rw [wipeE_len, wipeE_len]; exact hj
                          have l2 : j < (wipeE e vs).length := by rw [wipeE_len]; exact hj
                          have b1 : (wipeE (wipeE e vs1) vs)[j]? = some ((wipeE (wipeE e vs1) vs).at j) := by unfold Ev.at; rw [List.getD_eq_getElem?_getD, List.getElem?_eq_getElem l1]; rfl
                          have b2 : (wipeE e vs)[j]? = some ((wipeE e vs).at j) := by unfold Ev.at; rw [List.getD_eq_getElem?_getD, List.getElem?_eq_getElem l2]; rfl
                          rw [b1, b2, a1, a2, a3]
                          by_cases hm : j ∈ vs
                          · rw [if_pos hm, if_pos hm]
                          · rw [if_neg hm, if_neg hm, if_neg fun z => hm (hv _ z)]
                        · rw [List.getElem?_eq_none (by rw [wipeE_len, wipeE_len]; omega), List.getElem?_eq_none (by rw [wipeE_len]; omega)]
                      have tr89 : Tr (wipeE e6 vs) (wipeE e8 vs) := by
                        have z := tr_wipe (vs := vs) tr9
                        rw [eww] at z; exact z
                      refine ⟨R9, wipeE e8 vs, acc8, ws9, s2.trans (s3.trans (s5.trans (s7.trans s9))), hR9, w9, hl9, hd9, fun z => no9 (wipe_owns (by rw [ew]; exact z)), fun b o hb hn => ?_, tr4.trans ((tr_wipe t5).trans ((tr_wipe t7).trans tr89)), q2⟩
                      exact fr9 b o (ne_of_none hb hD) (fr5 r7 b o hb hn) fun z => r3.apart2 r7 (kp b o (fr2 b o hb hn)) (fun y => hn (no3 b y)) (wipe_owns z)
          rcases ij.yld i H2 x H' ds[i] R2 y (List.getElem?_eq_getElem hlt) s2 r2.sub with ⟨rfl, hd⟩ | ⟨T, o, hT, rfl, hd⟩ | ⟨T, o, U, o2, hT, hU, rfl, hd⟩
          · exact go R2 (Same.refl _) hR2 r2 hl2 (fun _ _ h => h) hd
          · have nTD : D ≠ T := ne_of_none hl2 hT
            exact go (upd R2 T o) (same_new (r2.rnn hT)) (by rw [upd_ne nTD]; exact hR2) (r2.new_sh hT) (by rw [upd_ne nTD]; exact hl2) (same_new hT) hd
          · have nTD : D ≠ T := ne_of_none hl2 hT
            have nUD : D ≠ U := ne_of_none (by rw [upd_ne nTD]; exact hl2) hU
            exact go (upd (upd R2 T o) U o2) ((same_new (r2.rnn hT)).trans (same_new ((r2.new_sh hT).rnn hU))) (by rw [upd_ne nUD, upd_ne nTD]; exact hR2) ((r2.new_sh hT).new_sh hU) (by rw [upd_ne nUD, upd_ne nTD]; exact hl2) ((same_new hT).trans (same_new hU)) hd
        · have e3 : i = ds.length := by omega
          subst e3
          rw [List.drop_length] at q2
          simp only [lcL2, Rs.ok.injEq] at q2
          obtain ⟨rfl, rfl⟩ := q2
          refine .inl ⟨ij.stop H2 (s2.trans r2.sub), ?_⟩
          have hlE : e1.length = e2.length := by rw [r1.len, r2.len, wipe_length]
          exact h _ R2 H2 (s1.trans s2) (r1.rest hun h0 s2 r2) (fun b o hb hn => fr2 b o (f1 b o hb hn) fun z => hn (tr1.owns (wipe_owns z))) (tr1.trans (tr_rest hlE tr2)) ⟨D, ws, rfl, hR2, hl2, hd2, fun z => no2 (rest_owns hlE hun z), hD0⟩
    · exact h.elim
/-- the inner for -/
structure LcIs2 (X : Cx) (io : Bool) (tg1 iter1 : Expr) (ifs1 : List Expr) (scope : Scope) (is1 vs1 : List Nat) (fi1 : Ev → Rs (List PyData)) (t1 : Tgt) (g1 : Ev → Rs Bool) : Prop where
  htg : TgOk is1 t1
  his : ∀ i ∈ is1, i ∈ vs1
  hi : ∀ B' : Bs, io = B'.io.isSome → ∀ (s : Shared) (H : Hp) (C : Addr) (cl : List (Str × Addr)) (fp : List Addr), PI (Blk X scope s H C cl fp) tg1 iter1 (tI X.K B' W0 fi1)
  hg : ∀ B' : Bs, io = B'.io.isSome → ∀ (s : Shared) (H : Hp) (C : Addr) (cl : List (Str × Addr)) (fp : List Addr), PG (Blk X scope s H C cl fp) tg1 (tG X.K B' is1 t1)
  ht : ∀ B' : Bs, io = B'.io.isSome → ∀ (s : Shared) (H : Hp) (C : Addr) (cl : List (Str × Addr)) (fp : List Addr), PTs (Blk X scope s H C cl fp) ifs1 (tT X.K B' W0 g1)
  hs : ∀ (env : Env) x, foldedSetIterable iter1 env x = pure x
section
variable {vs1 : List Nat} {fi1 : Ev → Rs (List PyData)} {t1 : Tgt} {g1 : Ev → Rs Bool} (M : LcIs2 X io tg1 iter1 ifs1 scope is1 vs1 fi1 t1 g1)
include M
theorem LcIs2.iE : ∀ (s : Shared) (H : Hp) (C : Addr) (cl : List (Str × Addr)) (fp : List Addr), PI (Blk X scope s H C cl fp) tg1 iter1 (tiB X.K io fi1) := fun s H C cl fp =>
  ⟨fun pins s' σ H' Q I ⟨B', hb, q⟩ => (M.hi B' hb s H C cl fp).run pins s' σ H' Q I q⟩
theorem LcIs2.gE : ∀ (s : Shared) (H : Hp) (C : Addr) (cl : List (Str × Addr)) (fp : List Addr), PG (Blk X scope s H C cl fp) tg1 (gB X.K io is1 t1) := fun s H C cl fp =>
  ⟨fun pins s' σ H' v u Q I r ⟨B', hb, q⟩ => (M.hg B' hb s H C cl fp).run pins s' σ H' v u Q I r q⟩
theorem LcIs2.tE : ∀ (s : Shared) (H : Hp) (C : Addr) (cl : List (Str × Addr)) (fp : List Addr), PTs (Blk X scope s H C cl fp) ifs1 (ttB X.K io g1) := fun s H C cl fp =>
  ⟨fun pins s' σ H' Q I ⟨B', hb, q⟩ => (M.ht B' hb s H C cl fp).run pins s' σ H' Q I q⟩
end
theorem dx_lc2 {vs1 : List Nat} {fi fi1 : Ev → Rs (List PyData)} {t t1 : Tgt} {g g1 : Ev → Rs Bool} {fa : Ev → Rs Rv} (hio : io = B.io.isSome) (hc : X.calm = true) (hN : X.N.Nodup) (L : LcIs X B W io elt tg iter ifs scope own is fi t g fa) (M : LcIs2 X io tg1 iter1 ifs1 scope is1 vs1 fi1 t1 g1) (hv : ∀ i ∈ vs1, i ∈ own.map (·.2)) :
    DX X B W (.ListComp elt [⟨tg, iter, ifs, 0⟩, ⟨tg1, iter1, ifs1, 0⟩] scope pos) (fLc2 io (own.map (·.2)) vs1 fi t g fi1 t1 g1 fa) :=
  pe_imp (pe_lc2 hc hN L.hi L.ok hv L.gE L.tE M.iE M.gE M.tE L.eE L.hs M.hs) fun σ H Q h => tlc2_of hio L.htg L.his M.htg M.his hv h
/-- name = [..] on one line -/
theorem ds_setLc2 {vs1 : List Nat} {i : Nat} {y : Str} {py spos : Pos} {fi fi1 : Ev → Rs (List PyData)} {t t1 : Tgt} {g g1 : Ev → Rs Bool} {fa : Ev → Rs Rv} (hio : io = B.io.isSome) (hc : X.calm = true) (hN : X.N.Nodup) (hy : X.N[i]? = some y) (hyl : X.env.scope.names.lookup y = some .local)
    (hsw : swapsWith (.ListComp elt [⟨tg, iter, ifs, 0⟩, ⟨tg1, iter1, ifs1, 0⟩] scope pos) (some (.Name y py)) spos.line X.env = pure true) (L : LcIs X B W io elt tg iter ifs scope own is fi t g fa) (M : LcIs2 X io tg1 iter1 ifs1 scope is1 vs1 fi1 t1 g1) (hv : ∀ i ∈ vs1, i ∈ own.map (·.2)) :
    DS X B W (.Assign [.Name y py] (.ListComp elt [⟨tg, iter, ifs, 0⟩, ⟨tg1, iter1, ifs1, 0⟩] scope pos) spos) (fAsg io i (fLc2 io (own.map (·.2)) vs1 fi t g fi1 t1 g1 fa)) :=
  ps_imp (ps_setLc2 hc hN hy hyl hsw L.hi L.ok hv L.gE L.tE M.iE M.gE M.tE L.eE L.hs M.hs) fun D σ H h => by
    have h := asg_of (fa := fLc2 io (own.map (·.2)) vs1 fi t g fi1 t1 g1 fa) hio h
    exact tlc2_of hio L.htg L.his M.htg M.his hv h
end
end PV
namespace PV
open PySem PySem.Spec PyProof.Rows L2

/-! ### t[::-1] -/
theorem places_rev (n : Nat) : Builtin.Slice.slicePlaces ((n : Int) - 1) (-1) (-1) = n := by
  cases n with
  | zero => rfl
  | succ m =>
    have e1 : (((m + 1 : Nat) : Int) - 1 - -1 - 1) / (- -1) + 1 = ((m + 1 : Nat) : Int) := by
      rw [Int.neg_neg, Int.ediv_one]; omega
    have e2 : ((m + 1 : Nat) : Int) - 1 > -1 := by omega
    rw [Builtin.Slice.slicePlaces, if_neg (by decide), if_pos e2, e1]
    exact Int.toNat_natCast _
theorem rev_pick (xs : Array Value) : ((List.range xs.size).filterMap fun (k : Nat) => xs[((xs.size : Int) - 1 + (k : Int) * (-1)).toNat]?).toArray = xs.toList.reverse.toArray := by
  congr 1
  apply List.ext_getElem?
  intro i
  have hf : ((List.range xs.size).filterMap fun (k : Nat) => xs[((xs.size : Int) - 1 + (k : Int) * (-1)).toNat]?) = (List.range xs.size).map fun k => (xs.toList.reverse)[k]?.getD .none := by
    rw [← List.filterMap_eq_map]
    have fc : ∀ (l : List Nat) (f g : Nat → Option Value), (∀ k ∈ l, f k = g k) → l.filterMap f = l.filterMap g := by
      intro l f g
      induction l with
      | nil => intro _; rfl
      | cons a l ih => intro h; rw [List.filterMap_cons, List.filterMap_cons, h a List.mem_cons_self, ih fun k hk => h k (List.mem_cons_of_mem _ hk)]
    apply fc
    intro k hk
    have hk := List.mem_range.mp hk
    have e : ((xs.size : Int) - 1 + (k : Int) * (-1)).toNat = xs.size - 1 - k := by omega
    rw [e]
    have h1 : k < xs.toList.reverse.length := by rw [List.length_reverse, Array.length_toList]; exact hk
    have h2 : xs.size - 1 - k < xs.size := by omega
    simp only [Function.comp, List.getElem?_eq_getElem h1, Option.getD_some, List.getElem_reverse, Array.getElem?_eq_getElem h2, Array.getElem_toList, Array.length_toList]
  rw [hf, List.getElem?_map]
  by_cases hi : i < xs.size
  · have h1 : i < xs.toList.reverse.length := by rw [List.length_reverse, Array.length_toList]; exact hi
    rw [List.getElem?_range hi, Option.map_some, List.getElem?_eq_getElem h1]; rfl
  · rw [List.getElem?_eq_none (by rw [List.length_range]; omega), List.getElem?_eq_none (by rw [List.length_reverse, Array.length_toList]; omega)]; rfl
section
variable {prog : Program} {w : World} {A : Around} {E : Value → Shared → Prop} {s : Shared}
theorem sliceApplied_rev {cut : Addr} {by_ : Value} {n : Nat} {Q : Int × Int × Nat → Shared → Prop} (isS : s.heap.IsSliceOf cut .none .none by_) (pt : IsPart by_ (some (-1)))
    (goal : Q ((n : Int) - 1, -1, n) s) : wpAny (model prog w) A (Builtin.Slice.sliceApplied (.ref cut) (pure (n : Int))) Q E s := by
  obtain ⟨cell, c1, c2, c3⟩ := id isS
  unfold Builtin.Slice.sliceApplied Builtin.Slice.sliceFields
  refine wpAny_bind (wpAny_bind (wpAny_field c1 c3 (x := .none) rfl (wpAny_bind (wpAny_field c1 c3 (x := .none) rfl (wpAny_bind (wpAny_field c1 c3 (x := by_) rfl (wpAny_pure ?_)))))))
  refine wpAny_bind (HT.slicePart_ pt ?_)
  show wpAny _ _ (if ((-1 : Int) == 0) = true then _ else _) _ _ s
  rw [if_neg (by decide)]
  refine wpAny_bind (HT.slicePart_ .none (wpAny_bind (HT.slicePart_ .none (wpAny_bind (wpAny_pure ?_)))))
  show wpAny _ _ (pure ((n : Int) - 1, (-1 : Int), Builtin.Slice.slicePlaces ((n : Int) - 1) (-1) (-1))) _ _ s
  rw [places_rev]
  exact wpAny_pure goal
theorem getItem_tuple_rev {tup cut : Addr} {vals : Array Value} {by_ : Value} {Q : Value → Shared → Prop} (isT : IsTup s.heap tup vals) (isS : s.heap.IsSliceOf cut .none .none by_) (pt : IsPart by_ (some (-1)))
    (goal : Q (.ref s.heap.objs.size) { s with heap := s.heap.push { cls := .type "tuple", data := .seq vals.toList.reverse.toArray } })
    (room : vals.size ≤ sizeLine) : wpAny (model prog w) A (getItem (.ref tup) (.ref cut)) Q E s := by
  have fits : sizeOk (.seq vals.toList.reverse.toArray) := by
    show vals.toList.reverse.toArray.size ≤ sizeLine
    rw [List.size_toArray, List.length_reverse, Array.length_toList]
    exact room
  obtain ⟨cell, c1, c2, c3⟩ := id isS
  have isSl : s.TypeIs (.ref cut) "slice" := ⟨cell, c1, c2⟩
  unfold getItem
  try with_reducible refine wpAny_holding ?_
  first | refine wpAny_bind (wpAny_pure ?_) | skip
  refine wpAny_bind (wpAny_sequenceKey isT.typeIs (by decide) ?_)
  refine wpAny_bind (wpAny_callSpecial?_slot (name := Str.ofString "__getitem__") isT.typeIs PyProof.Rows.slot_tuple_getitem
    (wpAny_call_entry PyProof.Rows.slot_tuple_getitem isT.typeIs PyProof.Rows.entry_tuple_getitem ?_ (PyProof.Rows.args_tuple_getitem _ _)))
  show wpAny _ _ (Builtin.Tuple.tupleItemsOf (.ref tup) >>= _) _ _ s
  refine wpAny_bind (PyProof.Rows.tupleItemsOf_ isT ?_)
  refine wpAny_bind (wpAny_typeOf isSl ?_)
  rw [if_pos (by decide)]
  refine wpAny_bind (sliceApplied_rev isS pt ?_)
  show wpAny _ _ (if (((vals.size : Int) - 1 == 0) && ((-1 : Int) == 1) && (vals.size == vals.size)) = true then _ else _) _ _ s
  rw [if_neg (by rw [show ((-1 : Int) == 1) = false by decide, Bool.and_false, Bool.false_and]; exact Bool.false_ne_true), rev_pick]
  first
    | exact wpAny_bind (m := Builtin.Tuple.tupleExact _) (wpAny_newObj_type (wpAny_pure ⟨_, rfl, wpAny_pure goal⟩) fits)
    | exact wpAny_bind (m := Builtin.Tuple.tupleExact _) (wpAny_newObj_type (wpAny_bind (wpAny_pure (wpAny_pure ⟨_, rfl, wpAny_pure goal⟩))) fits)
    | exact wpAny_bind (wpAny_bind (m := Builtin.Tuple.tupleExact _) (wpAny_newObj_type (wpAny_pure (wpAny_pure ⟨_, rfl, wpAny_pure goal⟩)) fits))
    | exact wpAny_bind (wpAny_bind (m := Builtin.Tuple.tupleExact _) (wpAny_newObj_type (wpAny_pure ⟨_, rfl, wpAny_pure goal⟩) fits))
end
def tRevA (K : Fg) (te : TE) : TE := fun σ H Q => te σ H fun x H1 => ∃ a xs, x = .ref a ∧ ((SqL K H1 a xs ∧ ∀ p, H1 p = none → Q (.ref p) (upd H1 p (.lst xs.reverse))) ∨ (SqT K H1 a xs ∧ ∀ p, H1 p = none → Q (.ref p) (upd H1 p (.tup xs.reverse))))
theorem pe_revA {X : Cx} {e : Expr} {tE : TE} {k : Nat} {p1 p2 p3 pos : Pos} (hE : PE X e tE) : PE X (.Subscript e (.Slice none none (some (.UnaryOp .USub (.Constant (.int 1) k p1) p2)) p3) pos) (tRevA X.K tE) := by
  refine ⟨fun pn q0 τ L Z J hyp => ?_⟩
  refine Subscript_ (thn (hE.run pn q0 τ L _ J hyp) fun vv q1 ⟨d, L1, J1, rl1, g1⟩ => ?_)
  obtain ⟨c, ds, eq, goal⟩ := g1
  subst eq
  cases rl1
  have back : PO X (some (.UnaryOp .USub (.Constant (.int 1) k p1) p2)) (tPart (tUn (rU fun i => .int (-i)) (tC (.int 1)))) := po_some (pe_un un_neg pe_int)
  refine wpAny_Slice (thn (po_none.run pn q1 τ L1 (fun n3 L2_ => n3 = none ∧ L2_ = L1) J1 ⟨rfl, rfl⟩) fun za q2 ⟨n1, L2_, J2, pa, ea, f2⟩ => ?_)
  subst ea f2
  refine thn (po_none.run pn q2 τ L2_ (fun n3 L3 => n3 = none ∧ L3 = L2_) J2 ⟨rfl, rfl⟩) fun zb q3 ⟨n2, L3, J3, pb, eb, f3⟩ => ?_
  subst eb f3
  refine thn (back.run pn q3 τ L3 (fun n3 L4 => n3 = some (-1) ∧ L4 = L3) J3 ⟨1, rfl, -1, rfl, rfl, rfl⟩) fun zc q4 ⟨n3, L4, J4, pc, ec, f4⟩ => ?_
  subst ec f4
  have J5 : Inv X pn τ L4 { q4 with heap := q4.heap.push { cls := .type "slice", data := .fields #[za, zb, zc] } } := J4.kept (t' := q4.toks) fun bb oo goal => Heap.get?_push_of_some _ goal
  show wpAny (model X.prog X.w) X.A (subscriptTail e (.Slice none none (some (.UnaryOp .USub (.Constant (.int 1) k p1) p2)) p3) (.ref c) (.ref q4.heap.objs.size)) (EP X pn τ Z) X.xe { q4 with heap := q4.heap.push { cls := .type "slice", data := .fields #[za, zb, zc] } }
  rcases goal with ⟨isS, goal⟩ | ⟨isS, goal⟩
  · obtain ⟨vals, rl, isT, fits⟩ := J5.list isS
    have hlen := rl.length
    refine tail_any (ops := [.ref c, .ref q4.heap.objs.size]) isT.isList.typeIs (PySem.slot_list_getitem.lookup) ?_ (by with_unfolding_all rfl)
    refine wpAny_getItem_list_slice isT.isList (Heap.IsSliceOf.new _ za zb zc) pa pb pc (by decide) ?_ (by rw [List.size_toArray]; omega)
    rw [PySem.W.krv_pick]
    refine ⟨.ref _, _, J5.laid (t' := q4.toks) (o := .lst ds.reverse) (fun bb oo goal => Heap.get?_push_of_some _ goal) (Nat.le_refl _) ?_, rfl, goal _ (J5.hok.fresh (Nat.le_refl _))⟩
    exact ⟨by rw [List.length_reverse]; exact fits, _, 0, rl.reverse, Heap.get?_push_size _ rfl⟩
  · cases pa
    cases pb
    obtain ⟨vals, rl, isT, fits⟩ := J5.tuple isS
    have hlen := rl.length
    refine tail_any (ops := [.ref c, .ref q4.heap.objs.size]) isT.typeIs PyProof.Rows.slot_tuple_getitem.lookup ?_ (by with_unfolding_all rfl)
    refine getItem_tuple_rev isT (Heap.IsSliceOf.new ..) pc ?_ (by rw [List.size_toArray]; omega)
    refine ⟨.ref _, _, J5.laid (t' := q4.toks) (o := .tup ds.reverse) (fun bb oo goal => Heap.get?_push_of_some _ goal) (Nat.le_refl _) ?_, rfl, goal _ (J5.hok.fresh (Nat.le_refl _))⟩
    exact ⟨by rw [List.length_reverse]; exact fits, _, rl.reverse, IsTup.new _ _⟩
section
variable {X : Cx} {B : Bs} {W : Wx} {a b c : Expr} {fa fb fc : Ev → Rs Rv} {pos p p2 p3 : Pos}
def fRev (fa : Ev → Rs Rv) (e : Ev) : Rs Rv := (fa e).bind fun ra e1 => match res e1 ra with
  | some (.list ds) => .ok (.fl ds.reverse) e1
  | some (.tuple ds) => .ok (.sh (.tuple ds.reverse)) e1
  | _ => .bad
theorem dx_rev {k : Nat} {p1 : Pos} (ha : DX X B W a fa) : DX X B W (.Subscript a (.Slice none none (some (.UnaryOp .USub (.Constant (.int 1) k p1) p2)) p3) pos) (fRev fa) := by
  refine pe_imp (pe_revA ha) fun σ H Q h => ?_
  obtain ⟨R, e, r, h⟩ := h
  refine ⟨R, e, r, ?_⟩
  have h : After X.K B W σ R H e ((fa e).bind fun ra e1 => match res e1 ra with
    | some (.list ds) => .ok (.fl ds.reverse) e1
    | some (.tuple ds) => .ok (.sh (.tuple ds.reverse)) e1
    | _ => .bad) Q := h
  cases q : fa e with
  | ex c => rw [q] at h; exact h
  | bad => rw [q] at h; exact h
  | ok ra e1 =>
    rw [q] at h
    simp only [Rs.bind] at h
    intro x R1 H1 s1 r1 f1 t1 v1
    cases qr : res e1 ra with
    | none => rw [qr] at h; exact h.elim
    | some d =>
      rw [qr] at h
      have dc := v1.dc r1 qr
      cases d with
      | list ds =>
        obtain ⟨b, vs, rfl, h1, h2⟩ := dc_lst r1.sub dc
        refine ⟨b, vs, rfl, .inl ⟨SqL.of h1, fun p hp => ?_⟩⟩
        exact h _ R1 _ s1 (r1.new_own hp) (f1.trans t1 (.of_new hp)) t1 ⟨p, _, rfl, r1.rnn hp, upd_same, h2.reverse, r1.not_own hp, r1.h0n hp⟩
      | tuple ds =>
        obtain ⟨b, vs, rfl, h1, h2⟩ := dc_tup dc
        refine ⟨b, vs, rfl, .inr ⟨sqT_same r1.sub h1, fun p hp => ?_⟩⟩
        exact h _ (upd R1 p (.tup vs.reverse)) _ (s1.trans (same_new (r1.rnn hp))) (r1.new_sh hp) (f1.trans t1 (.of_new hp)) t1 (.tup (SqT.of upd_same) (h2.reverse.mono (same_new (r1.rnn hp))))
      | _ => exact h.elim
end
end PV
namespace PV
open PySem PySem.Spec PyProof.Rows L2

def putD (es : List (PyData × PyData)) (k : Key) (d : PyData) : List (PyData × PyData) :=
  if (es.any fun p => decide (keyOf p.1 = some k)) = true then es.map (fun p => if keyOf p.1 = some k then (p.1, d) else p) else es ++ [(kD k, d)]
theorem DnK.append {K : Fg} {H : Hp} : ∀ {kvs kws : List (Key × V)} {es fs : List (PyData × PyData)}, DnK K H kvs es → DnK K H kws fs → DnK K H (kvs ++ kws) (es ++ fs)
  | _, _, _, _, .nil, s => s
  | _, _, _, _, .cons a b, s => .cons a (DnK.append b s)
theorem DnK.any {K : Fg} {H : Hp} {k : Key} : ∀ {kvs : List (Key × V)} {es : List (PyData × PyData)}, DnK K H kvs es → (kvs.any fun kv => decide (kv.1 = k)) = (es.any fun p => decide (keyOf p.1 = some k))
  | _, _, .nil => rfl
  | _, _, @DnK.cons _ _ k' v kvs d es h1 h2 => by
    rw [List.any_cons, List.any_cons, DnK.any h2, keyOf_kD']
    congr 1
    simp
theorem DnK.put {K : Fg} {H : Hp} {k : Key} {v : V} {d : PyData} {kvs : List (Key × V)} {es : List (PyData × PyData)} (h : DnK K H kvs es) (hd : Dn K H v d) : DnK K H (putK kvs k v) (putD es k d) := by
  unfold putK putD
  rw [h.any (k := k)]
  by_cases q : (es.any fun p => decide (keyOf p.1 = some k)) = true
  · rw [if_pos q, if_pos q]
    clear q
    have key : ∀ {kvs : List (Key × V)} {es : List (PyData × PyData)}, DnK K H kvs es → DnK K H (kvs.map fun kv => if kv.1 = k then (kv.1, v) else kv) (es.map fun p => if keyOf p.1 = some k then (p.1, d) else p) := by
      intro kvs es h
      induction kvs generalizing es with
      | nil => cases h; exact .nil
      | cons kv kvs ih =>
        cases h with
        | @cons k' v' kvs d' es h1 h2 =>
          rw [List.map_cons, List.map_cons]
          simp only [keyOf_kD', Option.some.injEq]
          by_cases e : k' = k
          · rw [if_pos e, if_pos e]; exact .cons hd (ih h2)
          · rw [if_neg e, if_neg e]; exact .cons h1 (ih h2)
    exact key h
  · rw [if_neg q, if_neg q]
    exact h.append (.cons hd .nil)
def rSetA : TSet := fun o i v H Q => rSetL o i v H Q ∨ rSetD o i v H Q
theorem set_any {X : Cx} (hu : X.A.units + 1 < cLine) : PSet X rSetA := fun pins s σ H o i v ov iv u Q I ro ri rv h => by
  rcases h with h | h
  · exact set_list pins s σ H o i v ov iv u Q I ro ri rv h
  · exact set_dict hu pins s σ H o i v ov iv u Q I ro ri rv h
def fPut (io : Bool) (i : Nat) (fv fk : Ev → Rs Rv) (e : Ev) : Fl := (shr io (fv e)).then fun rv e1 => match rv with
  | .sh d => if (e1.at i).own = true then (fk e1).then fun rk e2 => match e2.at i with
    | .ow ds => (match res e2 rk with
      | some (.int k) => (match ixN ds.length k with
        | some j => .nx (e2.set i (.ow (ds.set j d)))
        | none => .bad)
      | _ => .bad)
    | .od es => (match (res e2 rk).bind keyOf with
      | some k => if es.length < line then .nx (e2.set i (.od (putD es k d))) else .bad
      | none => .bad)
    | _ => .bad else .bad
  | _ => .bad
section
variable {X : Cx} {B : Bs} {W : Wx} {b v : Expr} {fv fk : Ev → Rs Rv} {pos p tpos : Pos} {io : Bool}
theorem ds_put {i : Nat} {x : Str} (hio : io = B.io.isSome) (hu : X.A.units + 1 < cLine) (hN : X.N[i]? = some x) (hv : Vis X.env.scope x) (hd : (x == ("__debug__" : Str)) = false) (hcd : (x == ("__classdict__" : Str)) = false)
    (ha : DX X B W v fv) (hb : DX X B W b fk) (hsb : ∀ v, assign (.Subscript (.Name x p) b tpos) X.env v = (do
      let ov ← holding [v] (eval (.Name x p) X.env)
      let iv ← holding [v, ov] (eval b X.env)
      standAt tpos
      holding [v, ov, iv] (setItem ov iv v)
      release [v, ov, iv] []) := by intro _; rfl)
    (hs : swapsWithSole [.Subscript (.Name x p) b tpos] v pos.line X.env = pure false := by rfl) (hw : swappedStores [.Subscript (.Name x p) b tpos] v X.env = pure none := by rfl)
    (h1 : (assignEach [.Subscript (.Name x p) b tpos] X.env).map (·.2) = [assign (.Subscript (.Name x p) b tpos) X.env] := by rfl) :
    DS X B W (.Assign [.Subscript (.Name x p) b tpos] v pos) (fPut io i fv fk) := by
  refine ps_imp (ps_asg (dx_share hio ha) (pg_sub (pe_var hN hv hd hcd) hb (set_any hu) hsb) hs hw h1) fun D σ H h => ?_
  refine te_mono (tS_expr h) fun x1 H1 ⟨R, e, rv, r, vr, h⟩ => ?_
  cases rv with
  | fl d => exact h.elim
  | fd d => exact h.elim
  | sl d => exact h.elim
  | sh d =>
    simp only at h
    by_cases ho : (e.at i).own = true
    · rw [if_pos ho] at h
      have vr : Dn X.K R x1 d := vr
      -- the name bears its object
      have hb : ∃ a, nm σ i = some (.ref a) := by
        have s := r.sl i
        cases q : e.at i with
        | un => rw [q] at ho; cases ho
        | sh d => rw [q] at ho; cases ho
        | ow ds => rw [q] at s; obtain ⟨a, vs, h1, _⟩ := s; exact ⟨a, h1⟩
        | od ds => rw [q] at s; obtain ⟨a, vs, h1, _⟩ := s; exact ⟨a, h1⟩
      obtain ⟨a, hna⟩ := hb
      refine ⟨.ref a, nm_get hna, ?_⟩
      refine ⟨R, e, r, ?_⟩
      cases q : fk e with
      | ex c => rw [q] at h; exact h
      | bad => rw [q] at h; exact h
      | ok rk e2 =>
        rw [q] at h
        simp only [Rs.then] at h
        intro y R2 H2 s2 r2 f2 t2 v2
        have s := r2.sl i
        cases q2 : e2.at i with
        | un => rw [q2] at h; exact h.elim
        | sh d => rw [q2] at h; exact h.elim
        | ow ds =>
          rw [q2] at h s
          simp only at h
          obtain ⟨a', vs, e1', hR', hH', hd'⟩ := s
          rw [hna] at e1'; cases e1'
          split at h
          · rename_i k qk
            split at h
            · rename_i j qj
              have hy := dc_int (v2.dc r2 qk)
              refine .inl ⟨a, vs, k, j, rfl, hy, hH', by rw [hd'.length]; exact qj, ?_⟩
              exact h σ R2 _ s2 (r2.put ⟨ds, q2⟩ hna (hd'.set (vr.mono s2) j))
            · exact h.elim
          · exact h.elim
        | od es =>
          rw [q2] at h s
          simp only at h
          obtain ⟨a', kvs, e1', hR', hH', hd'⟩ := s
          rw [hna] at e1'; cases e1'
          cases qr : res e2 rk with
          | none => rw [qr] at h; exact h.elim
          | some dk =>
            rw [qr] at h
            simp only [Option.bind_some] at h
            cases qk : keyOf dk with
            | none => rw [qk] at h; exact h.elim
            | some k =>
              rw [qk] at h
              simp only at h
              split at h
              · rename_i hlen
                have hy : y = kV k := by
                  have dcy := v2.dc r2 qr
                  rw [← keyOf_kD qk] at dcy
                  cases k with
                  | inl i => exact dc_int dcy
                  | inr x => exact dc_str dcy
                refine .inr ⟨a, _, rfl, ?_, h σ R2 _ s2 (r2.putD ⟨es, q2⟩ hna (hd'.put (vr.mono s2)))⟩
                rw [hy]
                exact DPut.k hH' (by rw [hd'.length, line_eq]; exact hlen)
              · exact h.elim
    · rw [if_neg ho] at h; exact h.elim
end
end PV
namespace PV
open PySem PySem.Spec PyProof.Rows L2
def dcL (io : Bool) (vs : List Nat) (t : Tgt) (g : Ev → Rs Bool) (fk fv : Ev → Rs Rv) : List PyData → Ev → List (PyData × PyData) → Rs (List (PyData × PyData))
  | [], e, acc => .ok acc e
  | d :: ds, e, acc => match t d e with
    | none => .bad
    | some e1 => match g e1 with
      | .ok true e2 => (match shr io (fk e2) with
        | .ok (.sh k) e3 => (match PV.keyOf k with
          | some key => (match shr io (fv e3) with
            | .ok (.sh x) e4 => if acc.length < line then dcL io vs t g fk fv ds (wipeE e4 vs) (putD acc key x) else .bad
            | _ => .bad)
          | none => .bad)
        | _ => .bad)
      | .ok false e2 => dcL io vs t g fk fv ds (wipeE e2 vs) acc
      | _ => .bad
def fDc (io : Bool) (vs : List Nat) (fi : Ev → Rs (List PyData)) (t : Tgt) (g : Ev → Rs Bool) (fk fv : Ev → Rs Rv) (e : Ev) : Rs Rv := match fi e with
  | .ok ds e1 => if unowned e1 vs = true ∧ (io = false ∨ 0 ∉ vs) then (match dcL io vs t g fk fv ds (wipeE e1 vs) [] with
    | .ok acc e2 => .ok (.fd acc) (restE e1 e2 vs)
    | _ => .bad) else .bad
  | .ex c => .ex c
  | .bad => .bad
theorem DnK.len {K : Fg} {H : Hp} : ∀ {kvs : List (Key × V)} {es : List (PyData × PyData)}, DnK K H kvs es → kvs.length = es.length
  | _, _, .nil => rfl
  | _, _, .cons _ b => by rw [List.length_cons, List.length_cons, DnK.len b]
section
variable {X : Cx} {B : Bs} {W : Wx} {kx vx tg iter : Expr} {ifs : List Expr} {scope : Scope} {own : List (Str × Nat)} {pos : Pos} {io : Bool} {is : List Nat}
theorem tdc_of {vs : List Nat} {fi : Ev → Rs (List PyData)} {t : Tgt} {g : Ev → Rs Bool} {fk fv : Ev → Rs Rv} (hio : io = B.io.isSome) (htg : TgOk is t) (his : ∀ i ∈ is, i ∈ vs) {σ : L2.St} {H : Hp} {Q : VK}
    (h : tX X.K B W (fDc io vs fi t g fk fv) σ H Q) : tDc (tI X.K B W fi) (gB X.K io is t) (ttB X.K io g) (teB X.K io fk) (teB X.K io fv) vs σ H Q := by
  obtain ⟨R, e, r, h⟩ := h
  refine ⟨R, e, r, ?_⟩
  unfold fDc at h
  cases q : fi e with
  | ex c => rw [q] at h; exact h
  | bad => rw [q] at h; exact h
  | ok ds e1 =>
    rw [q] at h
    intro J R1 H1 s1 r1 f1 t1 ij D hD
    simp only at h
    split at h
    · rename_i hcond
      obtain ⟨hun, hz⟩ := hcond
      have h0 : B.io = none ∨ 0 ∉ vs := by
        rcases hz with z | z
        · left
          cases hb : B.io with
          | none => rfl
          | some a => rw [hb] at hio; rw [hio] at z; cases z
        · exact .inr z
      have hD0 : B.H0 D = none := r1.h0n hD
      cases ql : dcL io vs t g fk fv ds (wipeE e1 vs) [] with
      | ex c => rw [ql] at h; exact h.elim
      | bad => rw [ql] at h; exact h.elim
      | ok accF eF =>
        rw [ql] at h
        simp only at h
        have rw1 := r1.wipe h0
        have dn0 : ¬ OwnsAt (L2.wipe σ vs) (wipeE e1 vs) D := rw1.not_own hD
        obtain ⟨St, hSt⟩ : ∃ St : Nat → Hp → Prop, St = fun i H => ∃ R2 e2 acc ws, Same R1 R2 ∧ R2 D = none ∧ Rel X.K B R2 (L2.wipe σ vs) H e2 ∧ H D = some (.dK ws) ∧ DnK X.K R2 ws acc ∧ ¬ OwnsAt (L2.wipe σ vs) e2 D ∧
            (∀ b o, H1 b = some o → ¬ OwnsAt (L2.wipe σ vs) (wipeE e1 vs) b → H b = some o) ∧ Tr (wipeE e1 vs) e2 ∧ dcL io vs t g fk fv (ds.drop i) e2 acc = .ok accF eF := ⟨_, rfl⟩
        refine ⟨fun i m H => m = ds.length - i ∧ i ≤ ds.length ∧ St i H, ⟨_, rfl, Nat.zero_le _, by
          rw [hSt]
          exact ⟨R1, wipeE e1 vs, [], [], Same.refl _, r1.rnn hD, rw1.new_own hD, upd_same, .nil, dn0, fun b o hb _ => by rw [upd_ne (ne_of_none hb hD)]; exact hb, .refl _, ql⟩⟩, ?_⟩
        rintro i m H2 ⟨rfl, hi', hst⟩
        rw [hSt] at hst
        obtain ⟨R2, e2, acc, ws, s2, hR2, r2, hl2, hd2, no2, fr2, tr2, q2⟩ := hst
        by_cases hlt : i < ds.length
        · have hdrop : ds.drop i = ds[i] :: ds.drop (i + 1) := List.drop_eq_getElem_cons hlt
          rw [hdrop] at q2
          simp only [dcL] at q2
          refine .inr ⟨ij.go i H2 hlt (s2.trans r2.sub), St (i + 1), fun H' x => ⟨_, by omega, rfl, hlt, x⟩, fun x H' y => ?_⟩
          have go : ∀ R3, Same R2 R3 → R3 D = none → Rel X.K B R3 (L2.wipe σ vs) H' e2 → H' D = some (.dK ws) → (∀ b o, H2 b = some o → H' b = some o) → Dn X.K R3 x ds[i] →
              ∃ B' : Bs, io = B'.io.isSome ∧ tG X.K B' is t x (L2.wipe σ vs) H' fun σ2 H2 => L2.wipe σ2 vs = L2.wipe σ vs ∧ ∃ B' : Bs, io = B'.io.isSome ∧ tT X.K B' W0 g σ2 H2 fun b H3 =>
                if b = true then ∃ B' : Bs, io = B'.io.isSome ∧ tX X.K B' W0 (fun e => shr io (fk e)) σ2 H3 fun y H4 => ∃ B' : Bs, io = B'.io.isSome ∧ tX X.K B' W0 (fun e => shr io (fv e)) σ2 H4 fun z H5 => ∃ kvs k, y = kV k ∧ H5 D = some (.dK kvs) ∧ kvs.length < sizeLine ∧ St (i + 1) (upd H5 D (.dK (putK kvs k z)))
                else St (i + 1) H3 := by
            intro R3 s3 hR3 r3 hl3 kp hd
            have rg := r3.fence
            refine ⟨B.fence R3 (L2.wipe σ vs) H' e2, hio, R3, e2, ds[i], rg, hd, ?_⟩
            have no3 : ∀ b, OwnsAt (L2.wipe σ vs) e2 b → OwnsAt (L2.wipe σ vs) (wipeE e1 vs) b := fun b z => tr2.owns z
            cases qt : t ds[i] e2 with
            | none => rw [qt] at q2; cases q2
            | some e4 =>
              rw [qt] at q2
              simp only at q2 ⊢
              rintro σ4 ⟨us, hus, rfl⟩ r4
              refine ⟨(wipe_setAll his).trans wipe_wipe, B.fence R3 (L2.wipe σ vs) H' e2, hio, R3, e4, r4, ?_⟩
              have tr4 : Tr (wipeE e1 vs) (wipeE e4 vs) := (tr_wipeR tr2).trans (tr_wipeE fun i hi => htg _ _ _ qt i fun z => hi (his i z))
              have dguard : ∀ {R5 H5 e5}, Rel X.K (B.fence R3 (L2.wipe σ vs) H' e2) R5 (setAll is us (L2.wipe σ vs)) H5 e5 → R5 D = none ∧ H5 D = some (.dK ws) ∧ ¬ OwnsAt (setAll is us (L2.wipe σ vs)) e5 D := fun {R5 H5 e5} r5 =>
                ⟨(r3.apart r5 hR3 hl3 no2).1, r3.kept r5 hl3 no2, (r3.apart r5 hR3 hl3 no2).2⟩
              have back : ∀ {R5 H5 e5}, Rel X.K (B.fence R3 (L2.wipe σ vs) H' e2) R5 (setAll is us (L2.wipe σ vs)) H5 e5 → Rel X.K B R5 (L2.wipe σ vs) H5 (wipeE e5 vs) ∧ ¬ OwnsAt (L2.wipe σ vs) (wipeE e5 vs) D := fun {R5 H5 e5} r5 => by
                have w := (r3.unfence r5).wipe h0
                rw [wipe_setAll his, wipe_wipe] at w
                refine ⟨w, fun z => ?_⟩
                have z' : OwnsAt (L2.wipe (setAll is us (L2.wipe σ vs)) vs) (wipeE e5 vs) D := by rw [wipe_setAll his, wipe_wipe]; exact z
                exact (dguard r5).2.2 (wipe_owns z')
              have fr5 : ∀ {R5 H5 e5}, Rel X.K (B.fence R3 (L2.wipe σ vs) H' e2) R5 (setAll is us (L2.wipe σ vs)) H5 e5 → ∀ b o, H1 b = some o → ¬ OwnsAt (L2.wipe σ vs) (wipeE e1 vs) b → H5 b = some o := fun {R5 H5 e5} r5 b o hb hn =>
                r3.kept r5 (kp b o (fr2 b o hb hn)) fun z => hn (no3 b z)
              show AfterB X.K _ W0 _ R3 H' e4 (g e4) _
              cases qg : g e4 with
              | ex c => rw [qg] at q2; cases q2
              | bad => rw [qg] at q2; cases q2
              | ok b e5 =>
                rw [qg] at q2
                intro R5 H5 s5 r5 f5 t5
                cases b with
                | false =>
                  rw [if_neg (fun z => nomatch z), hSt]
                  exact ⟨R5, wipeE e5 vs, acc, ws, s2.trans (s3.trans s5), (dguard r5).1, (back r5).1, (dguard r5).2.1, DnK.mono (s3.trans s5) _ _ hd2, (back r5).2, fr5 r5, tr4.trans (tr_wipe t5), q2⟩
                | true =>
                  rw [if_pos rfl]
                  refine ⟨B.fence R3 (L2.wipe σ vs) H' e2, hio, R5, e5, r5, ?_⟩
                  show After X.K _ W0 _ R5 H5 e5 (shr io (fk e5)) _
                  simp only at q2
                  cases qa : shr io (fk e5) with
                  | ex c => rw [qa] at q2; cases q2
                  | bad => rw [qa] at q2; cases q2
                  | ok rv e6 =>
                    rw [qa] at q2
                    cases rv with
                    | fl d => cases q2
                    | fd d => cases q2
                    | sl d => cases q2
                    | sh dk =>
                      simp only at q2
                      intro yv R7 H7 s7 r7 f7 t7 v7
                      cases qk : PV.keyOf dk with
                      | none => rw [qk] at q2; cases q2
                      | some key =>
                        rw [qk] at q2
                        simp only at q2
                        refine ⟨B.fence R3 (L2.wipe σ vs) H' e2, hio, R7, e6, r7, ?_⟩
                        show After X.K _ W0 _ R7 H7 e6 (shr io (fv e6)) _
                        cases qb : shr io (fv e6) with
                        | ex c => rw [qb] at q2; cases q2
                        | bad => rw [qb] at q2; cases q2
                        | ok rv2 e7 =>
                          rw [qb] at q2
                          cases rv2 with
                          | fl d => cases q2
                          | fd d => cases q2
                          | sl d => cases q2
                          | sh dv =>
                            simp only at q2
                            intro zv R9 H9 s9 r9 f9 t9 v9
                            split at q2
                            · rename_i hlen
                              have hd9 : DnK X.K R9 ws acc := DnK.mono (s3.trans (s5.trans (s7.trans s9))) _ _ hd2
                              have ne : ∀ b o, H1 b = some o → b ≠ D := fun b o hb => ne_of_none hb hD
                              have hv7 : Dn X.K R7 yv dk := v7
                              refine ⟨ws, key, hv7.key qk, (dguard r9).2.1, by rw [hd2.len, line_eq]; exact hlen, ?_⟩
                              rw [hSt]
                              exact ⟨R9, wipeE e7 vs, putD acc key dv, putK ws key zv, s2.trans (s3.trans (s5.trans (s7.trans s9))), (dguard r9).1, (back r9).1.other (dguard r9).1 (back r9).2 hD0, upd_same, hd9.put v9, (back r9).2,
                                fun b o hb hn => by rw [upd_ne (ne b o hb)]; exact fr5 r9 b o hb hn, tr4.trans ((tr_wipe t5).trans ((tr_wipe t7).trans (tr_wipe t9))), q2⟩
                            · cases q2
          rcases ij.yld i H2 x H' ds[i] R2 y (List.getElem?_eq_getElem hlt) s2 r2.sub with ⟨rfl, hd⟩ | ⟨T, o, hT, rfl, hd⟩ | ⟨T, o, U, o2, hT, hU, rfl, hd⟩
          · exact go R2 (Same.refl _) hR2 r2 hl2 (fun _ _ h => h) hd
          · have nTD : D ≠ T := ne_of_none hl2 hT
            exact go (upd R2 T o) (same_new (r2.rnn hT)) (by rw [upd_ne nTD]; exact hR2) (r2.new_sh hT) (by rw [upd_ne nTD]; exact hl2) (same_new hT) hd
          · have nTD : D ≠ T := ne_of_none hl2 hT
            have nUD : D ≠ U := ne_of_none (by rw [upd_ne nTD]; exact hl2) hU
            exact go (upd (upd R2 T o) U o2) ((same_new (r2.rnn hT)).trans (same_new ((r2.new_sh hT).rnn hU))) (by rw [upd_ne nUD, upd_ne nTD]; exact hR2) ((r2.new_sh hT).new_sh hU) (by rw [upd_ne nUD, upd_ne nTD]; exact hl2) ((same_new hT).trans (same_new hU)) hd
        · have e3 : i = ds.length := by omega
          subst e3
          rw [List.drop_length] at q2
          simp only [dcL, Rs.ok.injEq] at q2
          obtain ⟨rfl, rfl⟩ := q2
          refine .inl ⟨ij.stop H2 (s2.trans r2.sub), ?_⟩
          have hlE : e1.length = e2.length := by rw [r1.len, r2.len, wipe_length]
          exact h _ R2 H2 (s1.trans s2) (r1.rest hun h0 s2 r2) (fun b o hb hn => fr2 b o (f1 b o hb hn) fun z => hn (t1.owns (wipe_owns z))) (t1.trans (tr_rest hlE tr2)) ⟨D, ws, rfl, hR2, hl2, hd2, fun z => no2 (rest_owns hlE hun z), hD0⟩
    · exact h.elim
/-- what is run in the block -/
theorem dx_dc {fi : Ev → Rs (List PyData)} {t : Tgt} {g : Ev → Rs Bool} {fk fv : Ev → Rs Rv} (hio : io = B.io.isSome) (hc : X.calm = true) (hN : X.N.Nodup) (L : LcIs X B W io kx tg iter ifs scope own is fi t g fk) (M : LcIs X B W io vx tg iter ifs scope own is fi t g fv) :
    DX X B W (.DictComp kx vx [⟨tg, iter, ifs, 0⟩] scope pos) (fDc io (own.map (·.2)) fi t g fk fv) :=
  pe_imp (pe_dc hc hN L.hi L.ok L.gE L.tE L.eE M.eE L.hs) fun σ H Q h => tdc_of hio L.htg L.his h
/-- name = {..} on one line -/
theorem ps_setDc {i : Nat} {y : Str} {py spos : Pos} {wi : TI} {g : TG} {tt : TT} {tk tv : TE} (hc : X.calm = true) (hN : X.N.Nodup) (hy : X.N[i]? = some y) (hyl : X.env.scope.names.lookup y = some .local)
    (hsw : swapsWith (.DictComp kx vx [⟨tg, iter, ifs, 0⟩] scope pos) (some (.Name y py)) spos.line X.env = pure true) (hi : PI X tg iter wi) (ok : BlkOk X.N X.env.scope scope own)
    (hg : ∀ (s : Shared) (H : Hp) (C : Addr) (cl : List (Str × Addr)) (fp : List Addr), PG (Blk X scope s H C cl fp) tg g) (ht : ∀ (s : Shared) (H : Hp) (C : Addr) (cl : List (Str × Addr)) (fp : List Addr), PTs (Blk X scope s H C cl fp) ifs tt)
    (hk : ∀ (s : Shared) (H : Hp) (C : Addr) (cl : List (Str × Addr)) (fp : List Addr), PE (Blk X scope s H C cl fp) kx tk) (hv : ∀ (s : Shared) (H : Hp) (C : Addr) (cl : List (Str × Addr)) (fp : List Addr), PE (Blk X scope s H C cl fp) vx tv) (hs : ∀ x, foldedSetIterable iter X.env x = pure x) :
    PS X (.Assign [.Name y py] (.DictComp kx vx [⟨tg, iter, ifs, 0⟩] scope pos) spos) (tAsg (tDc wi g tt tk tv (own.map (·.2))) (gName i)) := by
  refine ⟨fun pn s0 τ L D J hyp => ?_⟩
  rw [exec_Assign_Name_used _ _ _ _ hsw]
  refine wpAny_bind (wpAny_standAt (wpAny_bind ?_))
  show wpAny _ X.A (do let _ ← comprehension (.DictComp kx vx [⟨tg, iter, ifs, 0⟩] scope pos) scope X.env (firstIterPos [⟨tg, iter, ifs, 0⟩] pos) newDict false (eval iter X.env) (some (assign (.Name y py) X.env))) _ _ s0
  have hyp : tDc wi g tt tk tv (own.map (·.2)) τ L (fun x L1 => gName i x τ L1 D.nx) := hyp
  refine wpAny_bind (thn (dc_core (Qf := fun _ s2 => SP X pn D .next s2) hc hN J hi ok hg ht hk hv hs hyp fun l C s2 m L2_ J2 q hn fr => ?_) fun _ s2 hq => wpAny_pure (wpAny_pure hq))
  show wpAny _ _ (assign (.Name y py) X.env (.ref l)) _ _ _
  refine wpAny_assign_Name (store_ok2 (v := V.ref l) J2 hN hy (.inl hyl) rfl (fun s3 J3 ⟨a, sb, ha⟩ => ?_) (.inr hyl))
  obtain ⟨g0, g1, g2, g3, g4, g5⟩ := fr
  have apart : C ≠ a := by
    rcases ha with z | z
    · rw [z]; exact g1
    · exact fun e => g4 y a z e.symm
  exact ⟨m, hn.sameBut sb apart, fun h3 sb3 => ⟨_, L2_, J3.turned (t' := s3.toks) (fun b o hb e => (sb3.2 b hb).trans e) g0 g1 g3 g4 g5, q⟩⟩
theorem ds_setDc {i : Nat} {y : Str} {py spos : Pos} {fi : Ev → Rs (List PyData)} {t : Tgt} {g : Ev → Rs Bool} {fk fv : Ev → Rs Rv} (hio : io = B.io.isSome) (hc : X.calm = true) (hN : X.N.Nodup) (hy : X.N[i]? = some y) (hyl : X.env.scope.names.lookup y = some .local)
    (hsw : swapsWith (.DictComp kx vx [⟨tg, iter, ifs, 0⟩] scope pos) (some (.Name y py)) spos.line X.env = pure true) (L : LcIs X B W io kx tg iter ifs scope own is fi t g fk) (M : LcIs X B W io vx tg iter ifs scope own is fi t g fv) :
    DS X B W (.Assign [.Name y py] (.DictComp kx vx [⟨tg, iter, ifs, 0⟩] scope pos) spos) (fAsg io i (fDc io (own.map (·.2)) fi t g fk fv)) :=
  ps_imp (ps_setDc hc hN hy hyl hsw L.hi L.ok L.gE L.tE L.eE M.eE L.hs) fun D σ H h => by
    have h := asg_of (fa := fDc io (own.map (·.2)) fi t g fk fv) hio h
    exact tdc_of hio L.htg L.his h
end
end PV
namespace PV
open PySem PySem.Spec PyProof.Rows L2
/-- a number in a list, by its place from the front -/
def rAtI : V → V → Hp → VK → Prop := fun o i H Q => ∃ (p : Addr) (xs : List V) (k a : Int), o = .ref p ∧ i = .int k ∧ 0 ≤ k ∧ H p = some (.lst xs) ∧ xs[k.toNat]? = some (.int a) ∧ Q (.int a) H
theorem get_at {X : Cx} : PGet X rAtI := by
  intro pins s σ H o i ov iv Q I ro ri h
  obtain ⟨p, xs, k, a, rfl, rfl, h0, hp, hx, q⟩ := h
  cases ro
  obtain ⟨t, rfl⟩ := ri
  obtain ⟨its, r, pl, hz⟩ := I.list (SqL.of hp)
  obtain ⟨w, ew, rw'⟩ := r.get hx
  have hl := r.length
  have hn := line63
  have hk := (List.getElem?_eq_some_iff.mp hx).1
  exact wpAny_getItem_list pl.isList h0 (by omega) (by simpa using ew) ⟨.int a, H, I, rw', q⟩
def fAugI (f : Int → Int → Int) (i : Nat) (fk fv : Ev → Rs Rv) (e : Ev) : Fl := if (e.at i).own = true then (fk e).then fun rk e1 => match e1.at i, res e1 rk with
  | .ow ds, some (.int k) => if 0 ≤ k then (match ds[k.toNat]? with
    | some (.int a) => (fv e1).then fun rv e2 => match rv, e2.at i with
      | .sh (.int b), .ow ds2 => if k.toNat < ds2.length then .nx (e2.set i (.ow (ds2.set k.toNat (.int (f a b))))) else .bad
      | _, _ => .bad
    | _ => .bad) else .bad
  | _, _ => .bad else .bad
section
variable {X : Cx} {B : Bs} {W : Wx} {b v : Expr} {fv fk : Ev → Rs Rv} {pos p tpos : Pos}
theorem ds_augI {i : Nat} {x : Str} {op : Operator} {f : Int → Int → Int} (ho : PIp X op (ipI f)) (hN : X.N[i]? = some x) (hv : Vis X.env.scope x) (hd : (x == ("__debug__" : Str)) = false) (hcd : (x == ("__classdict__" : Str)) = false)
    (ha : DX X B W v fv) (hb : DX X B W b fk) (hst : ∀ ov iv new, augStore b ov iv new = (do holding [new, ov, iv] (setItem ov iv new); release [new, ov, iv] []; pure .next)) :
    DS X B W (.AugAssign (.Subscript (.Name x p) b tpos) op v pos) (fAugI f i fk fv) := by
  refine ps_imp (ps_augS (pe_var hN hv hd hcd) hb get_at ha ho set_list hst) fun D σ H h => ?_
  obtain ⟨R, e, r, h⟩ := h
  have h : AfterS X.K B W R (fAugI f i fk fv e) D := h
  unfold fAugI at h
  split at h
  · rename_i ho
    have hb : ∃ a, nm σ i = some (.ref a) := by
      have s := r.sl i
      cases q : e.at i with
      | un => rw [q] at ho; cases ho
      | sh d => rw [q] at ho; cases ho
      | ow ds => rw [q] at s; obtain ⟨a, vs, h1, _⟩ := s; exact ⟨a, h1⟩
      | od ds => rw [q] at s; obtain ⟨a, vs, h1, _⟩ := s; exact ⟨a, h1⟩
    obtain ⟨p, hna⟩ := hb
    refine ⟨.ref p, nm_get hna, R, e, r, ?_⟩
    cases q : fk e with
    | ex c => rw [q] at h; exact h
    | bad => rw [q] at h; exact h
    | ok rk e1 =>
      rw [q] at h
      simp only [Rs.then] at h
      intro y R1 H1 s1 r1 f1 t1 v1
      split at h
      · rename_i ds k q1 qk
        have s := r1.sl i
        rw [q1] at s
        obtain ⟨p', vs, e1', hR, hH, hds⟩ := s
        rw [hna] at e1'; cases e1'
        have hy := dc_int (v1.dc r1 qk)
        split at h
        · rename_i h0
          split at h
          · rename_i a qa
            obtain ⟨w, ew, dw⟩ := hds.get qa
            have ew2 : vs[k.toNat]? = some (.int a) := by cases dw; exact ew
            refine ⟨p, vs, k, a, rfl, hy, h0, hH, ew2, R1, e1, r1, ?_⟩
            cases q2 : fv e1 with
            | ex c => rw [q2] at h; exact h
            | bad => rw [q2] at h; exact h
            | ok rv e2 =>
              rw [q2] at h
              simp only [Rs.then] at h
              intro z R2 H2 s2 r2 f2 t2 v2
              split at h
              · rename_i bv ds2 qi
                have v2 : Dn X.K R2 z (.int bv) := v2
                cases v2
                have s := r2.sl i
                rw [qi] at s
                obtain ⟨p', vs2, e1', hR2, hH2, hds2⟩ := s
                rw [hna] at e1'; cases e1'
                split at h
                · rename_i hlt
                  refine ⟨a, bv, rfl, rfl, p, vs2, k, k.toNat, rfl, hy, hH2, ?_, ?_⟩
                  · unfold ixN
                    rw [hds2.length, if_pos h0, if_pos (by omega)]
                  · exact h σ R2 _ (s1.trans s2) (r2.put ⟨ds2, qi⟩ hna (hds2.set (.int _) k.toNat))
                · exact h.elim
              · exact h.elim
          · exact h.elim
        · exact h.elim
      · exact h.elim
  · exact h.elim
end
end PV
namespace PV
open PySem PySem.Spec PyProof.Rows L2

/-- the names at the entry -/
def start0 (io : Bool) (n : Nat) (ds : List PyData) : Ev :=
  (match io, ds with
    | true, .list xs :: r => .ow xs :: r.map .sh
    | _, _ => ds.map .sh) ++ List.replicate (n - ds.length) .un
def ioOf (io : Bool) (e : Ev) : List PyData := match io, e.at 0 with
  | true, .ow xs => xs
  | _, _ => []
/-- what a body's end tells -/
def endF (io : Bool) (r : Fl) : FR := match r with
  | .nx e => .ret .none (ioOf io e)
  | .rt (.sh d) e => .ret d (ioOf io e)
  | .rt (.fl ds) e => .fresh ds (ioOf io e)
  | .rt (.fd es) e => .ret (.dict es) (ioOf io e)
  | .rt (.sl i) e => (match e.at i with
    | .sh d => .ret d (ioOf io e)
    | .ow ds => if (io && i == 0) = true then .bad else .fresh ds (ioOf io e)
    | .od es => if (io && i == 0) = true then .bad else .ret (.dict es) (ioOf io e)
    | .un => .bad)
  | .ex c => .ex c
  | _ => .bad
/-- the body as a function of what is handed in -/
def runB (io : Bool) (n : Nat) (g : Ev → Fl) (ds : List PyData) : FR := endF io (g (start0 io n ds))

section
variable {K : Fg} {B : Bs} {R H : Hp} {σ : L2.St} {e : Ev}
theorem start_sl {K : Fg} {R H : Hp} : ∀ {vs : List V} {ds : List PyData} {m : Nat}, DnA K R vs ds → ∀ i, SlR K R H (nm (vs.map some ++ List.replicate m none) i) (Ev.at (ds.map .sh ++ List.replicate m .un) i)
  | _, _, m, .nil, i => by
    have h : Ev.at (List.replicate m Sl.un) i = .un := by
      unfold Ev.at
      rw [List.getD_eq_getElem?_getD, List.getElem?_replicate]
      split <;> rfl
    simp only [List.map_nil, List.nil_append]
    rw [h]; trivial
  | _, _, m, .cons a b, 0 => ⟨_, rfl, a⟩
  | _, _, m, .cons a b, i + 1 => start_sl (m := m) b i
theorem start_un {K : Fg} {R : Hp} : ∀ {vs : List V} {ds : List PyData} {m : Nat}, DnA K R vs ds → ∀ i, (Ev.at (ds.map .sh ++ List.replicate m .un) i).own = false
  | _, _, m, .nil, i => by
    have h : Ev.at (List.replicate m Sl.un) i = .un := by
      unfold Ev.at
      rw [List.getD_eq_getElem?_getD, List.getElem?_replicate]
      split <;> rfl
    simp only [List.map_nil, List.nil_append]
    rw [h]; rfl
  | _, _, m, .cons a b, 0 => rfl
  | _, _, m, .cons a b, i + 1 => start_un (m := m) b i
theorem rel_start {N : List Str} {F : Bool} {vs : List V} {ds : List PyData} {io : Option Addr} (s : Same R H) (h : ArgsOk K R H F vs ds io) (hl : vs.length ≤ N.length) : Rel K ⟨H, R, io⟩ R (L2.start N vs) H (start0 F N.length ds) ∧ F = io.isSome ∧ ds.length = vs.length := by
  cases F with
  | false =>
    obtain ⟨rfl, hd⟩ := h
    refine ⟨⟨s, Same.refl _, fun i => ?_, fun i j a h1 => ?_, fun _ _ h _ => h, fun a ⟨i, h1, _⟩ => ?_, fun a h => (nomatch h), fun _ _ h => .inl h, ?_⟩, rfl, hd.length.symm⟩
    · unfold L2.start start0
      rw [hd.length]
      exact start_sl hd i
    · unfold start0 at h1
      rw [start_un hd] at h1; cases h1
    · unfold start0 at h1
      rw [start_un hd] at h1; cases h1
    · unfold L2.start start0
      simp only [List.length_append, List.length_map, List.length_replicate, hd.length]
  | true =>
    obtain ⟨p, ws, xs, vs', ds', rfl, rfl, rfl, h1, h2, h3, h4⟩ := h
    have hl' : N.length - (PyData.list xs :: ds').length = N.length - (V.ref p :: vs').length := by rw [List.length_cons, List.length_cons, h4.length]
    have at0 : ∀ i, Ev.at (start0 true N.length (.list xs :: ds')) (i + 1) = Ev.at (ds'.map .sh ++ List.replicate (N.length - (PyData.list xs :: ds').length) .un) i := fun i => rfl
    have own0 : ∀ i, (Ev.at (start0 true N.length (.list xs :: ds')) i).own = true → i = 0 := fun i h => by
      cases i with
      | zero => rfl
      | succ i => rw [at0, start_un h4] at h; cases h
    refine ⟨⟨s, Same.refl _, fun i => ?_, fun i j a h1 h2 _ _ => by rw [own0 i h1, own0 j h2], fun _ _ h _ => h, fun a ⟨i, q1, q2⟩ => ?_, fun a h => ?_, fun _ _ h => .inl h, ?_⟩, rfl, by rw [List.length_cons, List.length_cons, h4.length]⟩
    · cases i with
      | zero => exact ⟨p, ws, rfl, h1, h2, h3⟩
      | succ i =>
        rw [at0, hl']
        exact start_sl h4 i
    · obtain rfl := own0 i q1
      right
      have : nm (L2.start N (V.ref p :: vs')) 0 = some (.ref p) := rfl
      rw [this] at q2
      cases q2; rfl
    · cases h; exact ⟨rfl, xs, rfl⟩
    · unfold L2.start start0
      simp only [List.length_append, List.length_map, List.length_replicate, List.length_cons, h4.length]
theorem past_of {io : Bool} (hio : io = B.io.isSome) {R0 H0 : Hp} (hB : B.H0 = H0) (hR : B.R0 = R0) (r : Rel K B R σ H e) : Past K R0 H0 R H B.io (ioOf io e) where
  rr := hR ▸ r.r0
  sub := r.sub
  fr := fun b o h n => r.h0 b o (hB ▸ h) n
  rn := fun b o h => by rw [← hR, ← hB]; exact r.rn b o h
  at_ := fun a ha => by
    obtain ⟨h1, ds, h2⟩ := r.pen a ha
    have s := r.sl 0
    rw [h2] at s
    obtain ⟨a', vs, e1, e2, e3, e4⟩ := s
    rw [h1] at e1; cases e1
    refine ⟨vs, e3, ?_⟩
    have : io = true := by rw [hio, ha]; rfl
    subst this
    unfold ioOf
    rw [h2]; exact e4
theorem past_fr {io : Bool} (hio : io = B.io.isSome) {R0 H0 : Hp} (hB : B.H0 = H0) (hR : B.R0 = R0) (r : Rel K B R σ H e) {a : Addr} {o : HO} (h1 : R a = none) (h2 : H a = some o) (h3 : B.H0 a = none) (h4 : ¬ B.io = some a) :
    Past K R0 H0 (upd R a o) H B.io (ioOf io e) := by
  have p := past_of hio hB hR r
  refine ⟨p.rr.trans (same_new h1), fun b u q => ?_, p.fr, fun b u q => ?_, fun b hb => ?_⟩
  · by_cases hb : b = a
    · subst hb; rw [upd_same] at q; cases q; exact h2
    · rw [upd_ne hb] at q; exact p.sub b u q
  · by_cases hb : b = a
    · subst hb; right; rw [← hB]; exact h3
    · rw [upd_ne hb] at q; exact p.rn b u q
  · obtain ⟨ws, e1, e2⟩ := p.at_ b hb
    exact ⟨ws, e1, e2.mono (same_new h1)⟩
/-- the body's end is the call's end -/
theorem ends_of {mg : Mg} {Q : VK} {E : XK} {io : Bool} {R0 H0 : Hp} {r : Fl} (hio : io = B.io.isSome) (hB : B.H0 = H0) (hR : B.R0 = R0) (s : Same R0 R) (h : FRq K mg R0 H0 B.io (endF io r) Q E) :
    AfterS K B (fun c H' => ∀ C o, mg c = some (.ref C) → E (.ref C) o H') R r { nx := fun _ H' => Q .non H', rt := Q, bk := fun _ _ => False, ct := fun _ _ => False } := by
  cases r with
  | nx e => exact fun σ R' H' s' r' => h .non R' H' (past_of hio hB hR r') .non
  | bk e => exact h.elim
  | ct e => exact h.elim
  | bad => exact h.elim
  | ex c => exact fun H' hf => h H' fun b o hb hn => hf b o (hB ▸ hb) hn
  | rt rv e =>
    intro v σ R' H' s' r' vr
    cases rv with
    | sh d => exact h v R' H' (past_of hio hB hR r') vr
    | fl ds =>
      obtain ⟨a, vs, rfl, h1, h2, h3, h4, h5⟩ := vr
      exact h a vs R' H' (past_of hio hB hR r') (hB ▸ h5) h1 h2 h3
    | fd es =>
      obtain ⟨a, kvs, rfl, h1, h2, h3, h4, h5⟩ := vr
      exact h _ _ H' (past_fr hio hB hR r' h1 h2 h5 fun z => h4 (r'.io_own z)) (.dct upd_same (h3.mono (same_new h1)))
    | sl i =>
      obtain ⟨h1, h2⟩ := vr
      have sl := r'.sl i
      simp only [endF] at h
      cases q : e.at i with
      | un => exact absurd q h2
      | sh d =>
        rw [q] at h sl
        obtain ⟨w, e1, e2⟩ := sl
        rw [h1] at e1; cases e1
        exact h v R' H' (past_of hio hB hR r') e2
      | ow ds =>
        rw [q] at h sl
        simp only at h
        split at h
        · exact h.elim
        · rename_i hc
          obtain ⟨a, vs, e1, e2, e3, e4⟩ := sl
          rw [h1] at e1; cases e1
          have hz : B.H0 a = none := by
            rcases r'.new a ⟨i, by rw [q]; rfl, h1⟩ with z | z
            · exact z
            · obtain ⟨y1, _, y2⟩ := r'.pen a z
              have : i = 0 := r'.inj i 0 a (by rw [q]; rfl) (by rw [y2]; rfl) h1 y1
              subst this
              exact absurd (by rw [hio, z]; rfl) hc
          exact h a vs R' H' (past_of hio hB hR r') (hB ▸ hz) e2 e3 e4
      | od es =>
        rw [q] at h sl
        simp only at h
        split at h
        · exact h.elim
        · rename_i hc
          obtain ⟨a, vs, e1, e2, e3, e4⟩ := sl
          rw [h1] at e1; cases e1
          have hi : ¬ B.io = some a := fun z => by
            obtain ⟨y1, _, y2⟩ := r'.pen a z
            have : i = 0 := r'.inj i 0 a (by rw [q]; rfl) (by rw [y2]; rfl) h1 y1
            subst this
            exact absurd (by rw [hio, z]; rfl) hc
          have hz : B.H0 a = none := by
            rcases r'.new a ⟨i, by rw [q]; rfl, h1⟩ with z | z
            · exact z
            · exact absurd z hi
          exact h _ _ H' (past_fr hio hB hR r' e2 e3 hz hi) (.dct upd_same (e4.mono (same_new e2)))
end
/-- a body reads as g, in whatever state it is run -/
def BodyIs (P : Program) (w : World) (K : Fg) (mg : Mg) (base : Heap) (N : List Str) (qual : Str) (scope : Scope) (f : Addr) (cdv : Value) (k : Nat) (io : Bool) (body : List Stmt) (g : Ev → Fl) : Prop :=
  ∀ (A : Around) (outer : List Env) (s : Shared) (H : Hp) (E : XK) (B : Bs) (W : Wx), io = B.io.isSome → Room k (A.deeper (envOfC qual scope s.heap.objs.size f cdv)) → A.guards = some [] → Env0 P w K mg base A outer s H →
    Takes (cxOf (L2.CX P w) P w K mg base N qual scope f cdv A outer s H E) (WW mg W) → DSs (cxOf (L2.CX P w) P w K mg base N qual scope f cdv A outer s H E) B W body g
theorem fn_G {P : Program} {w : World} {K : Fg} {mg : Mg} {base : Heap} {k : Nat} {f : Addr} {name qual : Str} {params : Arguments} {body : List Stmt} {scope : Scope} {dV kV doc pm cdv ct oc : Value} {an od : Option Addr}
    {osl : Array (Option Value)} {N ps : List Str} {F : Fn} {g : Ev → Fl} (lk : K.lookup f = some ⟨oc, od, .func (PySem.W.fnOf name qual params body scope dV kV doc pm an cdv ct), osl⟩) (hcd : PySem.W.codeIn K cdv qual = true) (S : FnScope N ps scope)
    (hb : BodyIs P w K mg base N qual scope f cdv k F.io body g) (hF : ∀ ds, ds.length = ps.length → F.den ds = runB F.io N.length g ds) :
    FnG P w K mg base (k + 1) f (PySem.W.fnOf name qual params body scope dV kV doc pm an cdv ct) ps (spFn K mg ps.length F) := by
  have sized : ∀ ww L Z Ex, spFn K mg ps.length F ww L Z Ex → ww.length = ps.length := fun ww L Z Ex ⟨_, _, _, _, _, h, _⟩ => h
  refine ⟨sized, fun A envs s0 L asl uu ww Z Ex room noG env0 hb' rl pre => ?_⟩
  have lenEq := sized _ _ _ _ pre
  have inK : K.In s0.heap := env0.mod.kin.keeps fun b o e => (env0.bs b o e).1
  have noL : s0.heap.NoLimit := env0.mod.nolimit.keeps fun b o e => (env0.bs b o e).1
  have loc : ∀ z ∈ ps.zip uu, scope.names.lookup z.1 = some .local ∨ (scope.names.lookup z.1 = some .cell ∧ ((cellsFrom (s0.heap.objs.size + 1) scope.names []).lookup z.1).isSome = true) := fun ⟨nn, vv⟩ hz => by
    rcases S.par nn (List.of_mem_zip hz).1 with g | g
    · exact .inl g
    · exact .inr ⟨g, PySem.W.cellsFrom_some _ _ _ (.inl g)⟩
  refine codeAny_call_function room.depth (inK _ _ lk) rfl S.co S.gen rfl (PySem.W.codeRec_of inK hcd) (hb' _ _ _ _ ?_)
  refine wpAny_newFunctionEnv_cells S.kind loc fun ev eqE sA xc => ?_
  subst eqE
  refine ⟨noL.keeps xc.toInCall.keep, codeAny_func ?_⟩
  have J0 : Inv (cxOf (L2.CX P w) P w K mg base N qual scope f cdv A envs s0 L Ex) [] (L2.start N ww) L sA := inv_start S room.hd env0 lenEq rl xc
  obtain ⟨R, ds, io, hst, ha, hn, hq⟩ := pre
  have lenLe : ps.length ≤ N.length := by have := congrArg List.length S.pre; rw [List.length_take] at this; omega
  obtain ⟨rel, hio, hdl⟩ := rel_start (N := N) hst ha (by omega)
  rw [hF ds (by omega)] at hq
  have tk : Takes (cxOf (L2.CX P w) P w K mg base N qual scope f cdv A envs s0 L Ex) (WW mg fun c H' => ∀ C o, mg c = some (.ref C) → Ex (.ref C) o H') := by
    refine (L2.takes_of (X := cxOf (L2.CX P w) P w K mg base N qual scope f cdv A envs s0 L Ex) (E := Ex) rfl rfl rfl rfl).imp ?_
    rintro vv o σ' H' ⟨c, C, rfl, hc, hW⟩
    exact hW C o hc
  have ht := hb A envs s0 L Ex ⟨L, R, io⟩ _ hio (room.deeper _) noG env0 tk
  have hq' : tS K ⟨L, R, io⟩ (fun c H' => ∀ C o, mg c = some (.ref C) → Ex (.ref C) o H') g { nx := fun _ H' => Z .non H', rt := Z, bk := fun _ _ => False, ct := fun _ _ => False } (L2.start N ww) L :=
    ⟨R, _, rel, ends_of (B := ⟨L, R, io⟩) hio rfl rfl (Same.refl _) hq⟩
  refine wpAny_mono (ht.run [] sA (L2.start N ww) L _ J0 hq') (fun fw s' hst => ?_) fun e s' hst => hst
  have done : ∀ {σ' : L2.St} {H' : Hp} {vv : V} {ux : Value}, Inv (cxOf (L2.CX P w) P w K mg base N qual scope f cdv A envs s0 L Ex) [] σ' H' s' → RelV vv ux → Z vv H' → CE envs P w L s0 Z ux s' :=
    fun {σ' H' vv ux} J1 rel1 g => ⟨vv, H', J1.os, J1.bare, J1.base, J1.hok, rel1, g⟩
  cases fw with
  | ret ux =>
    obtain ⟨vv, σ', H', J1, rel1, g⟩ := hst
    exact done J1 rel1 g
  | next =>
    obtain ⟨σ', H', J1, g⟩ := hst
    exact done (vv := V.non) (ux := Value.none) J1 rfl g
  | brk =>
    obtain ⟨_, _, _, g⟩ := hst
    exact False.elim g
  | cont =>
    obtain ⟨_, _, _, g⟩ := hst
    exact False.elim g
end PV
namespace PV
open PySem PySem.Spec PyProof.Rows L2

/-! ### {k: v} -/
def dct1K (dk : PyData) (rv : Rv) (e : Ev) : Rs Rv := match rv with
  | .sh dv => (match keyOf dk with
    | some k => .ok (.fd [(kD k, dv)]) e
    | none => .bad)
  | _ => .bad
def fDct1 (io : Bool) (fk fv : Ev → Rs Rv) (e : Ev) : Rs Rv := (shr io (fk e)).bind fun rk e1 => match rk with
  | .sh dk => (shr io (fv e1)).bind (dct1K dk)
  | _ => .bad
section
variable {X : Cx} {B : Bs} {W : Wx} {ke ve : Expr} {fk fv : Ev → Rs Rv} {pos : Pos} {io : Bool}
theorem dx_anyB {a : Expr} {f : Ev → Rs Rv} (h : ∀ B : Bs, io = B.io.isSome → DX X B W a f) : PE X a (fun σ H Q => ∃ B : Bs, io = B.io.isSome ∧ tX X.K B W f σ H Q) :=
  ⟨fun pins s σ H Q I q => by obtain ⟨B, hb, q⟩ := q; exact (h B hb).run pins s σ H Q I q⟩
theorem shr_sh {io : Bool} {r : Rs Rv} {rv : Rv} {e : Ev} (h : shr io r = .ok rv e) : ∃ d, rv = .sh d := by
  cases r with
  | ex c => cases h
  | bad => cases h
  | ok a e' =>
    cases a with
    | sh d => cases h; exact ⟨_, rfl⟩
    | fl d => cases h; exact ⟨_, rfl⟩
    | fd d => cases h; exact ⟨_, rfl⟩
    | sl i =>
      simp only [shr] at h
      split at h
      · cases h
      · split at h <;> first | (cases h; exact ⟨_, rfl⟩) | cases h
theorem dx_dct1 (hio : io = B.io.isSome) (hk : ∀ B : Bs, io = B.io.isSome → DX X B W ke fk) (hv : ∀ B : Bs, io = B.io.isSome → DX X B W ve fv) : DX X B W (.Dict [some ke] [ve] pos) (fDct1 io fk fv) := by
  have pk := dx_anyB (io := io) (W := W) (f := fun e => shr io (fk e)) fun B hb => dx_share hb (hk B hb)
  have pv := dx_anyB (io := io) (W := W) (f := fun e => shr io (fv e)) fun B hb => dx_share hb (hv B hb)
  refine pe_imp (pe_disp (pps_cons pk pv pps_nil) rfl rfl (fun z => nomatch z) (show 1 ≤ 15 by decide)) fun σ H Q h => ?_
  obtain ⟨R, e, r, h⟩ := h
  have h : After X.K B W σ R H e ((shr io (fk e)).bind fun rk e1 => match rk with
    | .sh dk => (shr io (fv e1)).bind (dct1K dk)
    | _ => .bad) Q := h
  intro p hp
  have no := r.not_own hp
  have h0 := r.h0n hp
  have hR := r.rnn hp
  have r1 : Rel X.K (B.guard p (.dK [])) R σ (upd H p (.dK [])) e := (r.new_own (o := .dK []) hp).guard hR upd_same no
  refine ⟨B.guard p (.dK []), hio, R, e, r1, ?_⟩
  show After X.K _ W σ R _ e (shr io (fk e)) _
  cases q1 : shr io (fk e) with
  | ex c => rw [q1] at h; exact exq_guard h0 h
  | bad => rw [q1] at h; exact h.elim
  | ok rk e1 =>
    obtain ⟨dk, rfl⟩ := shr_sh q1
    rw [q1] at h
    have h : After X.K B W σ R H e ((shr io (fv e1)).bind (dct1K dk)) Q := h
    intro x R1 H1 s1 r2 f1 t1 v1
    refine ⟨B.guard p (.dK []), hio, R1, e1, r2, ?_⟩
    show After X.K _ W σ R1 H1 e1 (shr io (fv e1)) _
    cases q2 : shr io (fv e1) with
    | ex c => rw [q2] at h; exact exq_guard h0 h
    | bad => rw [q2] at h; exact h.elim
    | ok rv e2 =>
      obtain ⟨dv, rfl⟩ := shr_sh q2
      rw [q2] at h
      intro y R2 H2 s2 r3 f2 t2 v2
      have at1 : H1 p = some (.dK []) := f1 p _ upd_same no
      have no1 : ¬ OwnsAt σ e1 p := fun z => no (t1.owns z)
      have at2 : H2 p = some (.dK []) := f2 p _ at1 no1
      have no2 : ¬ OwnsAt σ e2 p := fun z => no1 (t2.owns z)
      have hR2 : ∀ {R' : Hp} {e' : Ev} {H' : Hp}, Rel X.K (B.guard p (.dK [])) R' σ H' e' → Same R R' → R' p = none := fun {R' e' H'} r' s' => by
        cases z : R' p with
        | none => rfl
        | some o =>
          rcases r'.rn p o z with y | y
          · have := r.r0 p o y
            rw [hR] at this; cases this
          · have y : upd B.H0 p (.dK []) p = none := y
            rw [upd_same] at y; cases y
      refine ⟨at2, ?_⟩
      have h : After X.K B W σ R H e (match keyOf dk with
        | some k => .ok (.fd [(kD k, dv)]) e2
        | none => .bad) Q := h
      cases qk : keyOf dk with
      | none => rw [qk] at h; exact h.elim
      | some k =>
        rw [qk] at h
        have v1 : Dn X.K R1 x dk := v1
        have v2 : Dn X.K R2 y dv := v2
        have hx : x = kV k := by
          rw [← keyOf_kD qk] at v1
          cases k with
          | inl i => cases v1; rfl
          | inr z => cases v1; rfl
        refine ⟨[(k, y)], by rw [hx]; rfl, (show 1 ≤ 15 by decide), ?_⟩
        have r4 : Rel X.K B R2 σ H2 e2 := r3.unguard h0
        have nR := hR2 r3 (s1.trans s2)
        have r5 : Rel X.K B R2 σ (upd H2 p (.dK [(k, y)])) e2 := r4.other nR no2 h0
        refine h (.ref p) R2 _ (s1.trans s2) r5 (fun b o hb nb => ?_) (t1.trans t2) ⟨p, [(k, y)], rfl, nR, upd_same, .cons v2 .nil, no2, h0⟩
        have ne : b ≠ p := ne_of_none hb hp
        rw [upd_ne ne]
        refine f2 b o (f1 b o ?_ nb) (fun z => nb (t1.owns z))
        rw [upd_ne ne]; exact hb
end

/-! ### calls by keywords -/
section
variable {X : Cx} {B : Bs} {W : Wx} {fa : Ev → Rs Rv}
abbrev DK (X : Cx) (B : Bs) (W : Wx) (kws : List Keyword) (f : Ev → Rs (List Rv)) : Prop := PK X kws (tL X.K B W f)
theorem pk_imp {kws : List Keyword} {t t' : TA} (h : PK X kws t) (i : ∀ σ H Q, t' σ H Q → t σ H Q) : PK X kws t' := ⟨fun pos pins s σ H Q I q => h.run pos pins s σ H Q I (i σ H Q q)⟩
theorem tl_cons {K : Fg} {fr : Ev → Rs (List Rv)} {σ : L2.St} {H : Hp} {Q : List V → Hp → Prop} (h : tL K B W (fCons fa fr) σ H Q) : tCons (tX K B W (fun e => stab (fa e))) (tL K B W fr) σ H Q := by
  obtain ⟨R, e, r, h⟩ := h
  have h : AfterL K B W σ R H e ((stab (fa e)).bind fun ra e1 => (fr e1).bind fun rs e2 => .ok (ra :: rs) e2) Q := h
  refine ⟨R, e, r, ?_⟩
  show After K B W σ R H e (stab (fa e)) _
  cases q : stab (fa e) with
  | ex c => rw [q] at h; exact h
  | bad => rw [q] at h; exact h
  | ok ra e1 =>
    rw [q] at h
    intro x R1 H1 s1 r1 f1 t1 v1
    have h := afterL_seq s1 f1 t1 h
    refine ⟨R1, e1, r1, ?_⟩
    have h : AfterL K B W σ R1 H1 e1 ((fr e1).bind fun rs e2 => .ok (ra :: rs) e2) Q := h
    cases q2 : fr e1 with
    | ex c => rw [q2] at h; exact h
    | bad => rw [q2] at h; exact h
    | ok rs e2 =>
      rw [q2] at h
      exact fun xs R2 H2 s2 r2 f2 t2 v2 => h (x :: xs) R2 H2 s2 r2 f2 t2 (.cons (v1.keep (stab_ok q) s2 t2) (stab_ok q) v2)
theorem dk_nil : DK X B W [] fNil := by
  refine pk_imp pk_nil fun σ H Q h => ?_
  obtain ⟨R, e, r, h⟩ := h
  exact h [] R H (Same.refl _) r .refl (.refl _) .nil
theorem dk_cons {a : Expr} {kws : List Keyword} {nm : Option Str} {kpos : Pos} {fr : Ev → Rs (List Rv)} (ha : DX X B W a fa) (hr : DK X B W kws fr) : DK X B W (⟨nm, a, kpos⟩ :: kws) (fCons fa fr) :=
  pk_imp (pk_cons (dx_stab ha) hr) fun σ H Q h => tl_cons h
/-- the arguments in the order of the parameters: pm tells where each one was written -/
def kwPerm {α : Type} (d : α) (pm : List Nat) (xs : List α) : List α := pm.map fun i => xs.getD i d
def fFnK (F : Fn) (pm : List Nat) (fl : Ev → Rs (List Rv)) (e : Ev) : Rs Rv := (fl e).bind fun rvs e1 => kFn F (kwPerm (.sh .none) pm rvs) e1
theorem perm_vals {pm : List Nat} {vs : List V} {us : List Value} (h : Vals vs us) : Vals (kwPerm V.non pm vs) (kwPerm Value.none pm us) := by
  have at_ : ∀ {vs : List V} {us : List Value} (i : Nat), Vals vs us → RelV (vs.getD i .non) (us.getD i .none) := by
    intro vs us i h
    induction h generalizing i with
    | nil => exact rfl
    | cons r _ ih =>
      cases i with
      | zero => exact r
      | succ i => exact ih i
  induction pm with
  | nil => exact .nil
  | cons i pm ih => exact .cons (at_ i h) ih
theorem perm_vrs {K : Fg} {R H : Hp} {σ : L2.St} {e : Ev} {pm : List Nat} {vs : List V} {rvs : List Rv} (h : VRs K B R H σ e vs rvs) : VRs K B R H σ e (kwPerm V.non pm vs) (kwPerm (.sh .none) pm rvs) := by
  have at_ : ∀ {vs : List V} {rvs : List Rv} (i : Nat), VRs K B R H σ e vs rvs → VR K B R H σ e (vs.getD i .non) (rvs.getD i (.sh .none)) ∧ isStab (rvs.getD i (.sh .none)) = true := by
    intro vs rvs i h
    induction h generalizing i with
    | nil => exact ⟨Dn.non, rfl⟩
    | cons r s _ ih =>
      cases i with
      | zero => exact ⟨r, s⟩
      | succ i => exact ih i
  induction pm with
  | nil => exact .nil
  | cons i pm ih => exact .cons (at_ i h).1 (at_ i h).2 ih
/-- how a call by keywords alone binds -/
abbrev KwB (fd : FuncData) (ps ks : List Str) (pm : List Nat) : Prop := pm.length = ps.length ∧ ∀ (s : Shared) (ws : List Value), ws.length = ks.length → BindsTo s fd ⟨[], ks.zip ws⟩ (ps.zip (kwPerm Value.none pm ws))
variable {k : Nat} {f : Addr} {fd : FuncData} {ps : List Str} {sp : Sp} {x : Str} {p pos : Pos} {t : TA}
theorem pe_callGK {kws : List Keyword} {ks : List Str} {pm : List Nat} (F : FnG X.prog X.w X.K X.mg X.base k f fd ps sp) (hr : Room k X.A) (hgu : X.A.guards = some []) (hg : Gl X x) (hm : X.mg x = some (.ref f)) (hk : PySem.W.keepIn X.K (.ref f) = true) (hb : KwB fd ps ks pm) (tk : Takes X (WW X.mg W))
    (ha : PK X kws t) (hdb : (x == ("__debug__" : Str)) = false) (hall : (backToKw pos (keywordEach kws X.env)).all (·.1.isSome) = true) (hks : (backToKw pos (keywordEach kws X.env)).filterMap (·.1) = ks)
    (hpl : ((backTo pos (starEach [] X.env)).any (·.1) || (backToKw pos (keywordEach kws X.env)).any (·.1.isNone)) = false) : PE X (.Call (.Name x p) [] kws pos) (fun σ H Q => t σ H fun vs H1 => vs.length = ks.length ∧ sp (kwPerm V.non pm vs) H1 Q (WE' X.mg W)) := by
  refine ⟨fun pins s σ H Q I h => wpAny_Call_Name_kw (ld_glob I hg hm (PySem.W.callWith_KW0 (h₀ := X.base) I.ok.mod.kin hk hall ?_ hpl) hdb)⟩
  refine thn (ha.run pos pins s σ H _ I h) fun ws s1 ⟨vs, H1, I1, r, hl, q⟩ => ⟨I1.kIn, ?_⟩
  rw [hks]
  have r2 := perm_vals (pm := pm) r
  refine wpAny_call (codeAny_mono (F.run X.A X.stack s1 H1 ⟨[], ks.zip ws⟩ (kwPerm Value.none pm ws) (kwPerm V.non pm vs) Q _ hr hgu I1.env0 (hb.2 s1 ws (r.length.symm.trans hl)) r2 q) fun r s' hq => ?_)
  cases r with
  | error e => exact tk e s' (XE.of_call I1 (fun _ _ _ h => h) hq)
  | ok fl =>
    cases fl with
    | ret u => exact I1.after hq
    | next => exact False.elim hq
    | brk => exact False.elim hq
    | cont => exact False.elim hq
theorem dx_callK {kws : List Keyword} {ks : List Str} {pm : List Nat} {F : Fn} {fl : Ev → Rs (List Rv)} (G : FnG X.prog X.w X.K X.mg X.base k f fd ps (spFn X.K X.mg ps.length F)) (hr : Room k X.A) (hgu : X.A.guards = some []) (hg : Gl X x) (hm : X.mg x = some (.ref f))
    (hk : PySem.W.keepIn X.K (.ref f) = true) (hb : KwB fd ps ks pm) (tk : Takes X (WW X.mg W)) (ha : DK X B W kws fl) (hl : kws.length = ks.length) (hlf : ∀ e rvs e1, fl e = .ok rvs e1 → rvs.length = kws.length) (hdb : (x == ("__debug__" : Str)) = false)
    (hall : (backToKw pos (keywordEach kws X.env)).all (·.1.isSome) = true) (hks : (backToKw pos (keywordEach kws X.env)).filterMap (·.1) = ks)
    (hpl : ((backTo pos (starEach [] X.env)).any (·.1) || (backToKw pos (keywordEach kws X.env)).any (·.1.isNone)) = false) :
    DX X B W (.Call (.Name x p) [] kws pos) (fFnK F pm fl) := by
  refine pe_imp (pe_callGK G hr hgu hg hm hk hb tk ha hdb hall hks hpl) fun σ H Q h => ?_
  obtain ⟨R, e, r, h⟩ := h
  have h : After X.K B W σ R H e ((fl e).bind fun rvs e1 => kFn F (kwPerm (.sh .none) pm rvs) e1) Q := h
  refine ⟨R, e, r, ?_⟩
  cases q : fl e with
  | ex c => rw [q] at h; exact h
  | bad => rw [q] at h; exact h
  | ok rvs e1 =>
    rw [q] at h
    intro vs R1 H1 s1 r1 f1 t1 v1
    have len : ∀ {vs : List V} {rvs : List Rv}, VRs X.K B R1 H1 σ e1 vs rvs → vs.length = rvs.length := by
      intro vs rvs h
      induction h with
      | nil => rfl
      | cons _ _ _ ih => simp [ih]
    refine ⟨by rw [len v1, hlf e rvs e1 q, hl], kFn_of r1 (perm_vrs v1) ?_ (after_seq s1 f1 t1 h)⟩
    unfold kwPerm
    rw [List.length_map, hb.1]
end

/-! ### try: body, except x: suite, where nothing leaves the body -/
def fTry (f : Ev → Fl) (e : Ev) : Fl := match f e with
  | .ex _ => .bad
  | r => r
section
variable {X : Cx} {B : Bs} {W : Wx} {x : Str} {c : Value} {body suite : List Stmt} {b₀ : Stmt} {np pos pos' : Pos} {Wout : WX} {f : Ev → Fl}
theorem ds_try0 (hs : X.stack = X.env :: X.outer) (hf : X.env.frame = some X.env.locals) (hc : Names X x c) (tk : Takes X Wout)
    (hb : ∀ (pn : List (Addr × Obj)) (xe : Value → Shared → Prop), PassesOwn (model X.prog X.w) X.A X.env xe → DSs (X.tr pn xe) B W0 body f) :
    DS X B W (.Try body [.ExceptHandler (some (.Name x np)) none (b₀ :: suite) pos'] [] [] pos) (fTry f) := by
  refine ps_imp (ps_try_only (tb := fun _ => tS X.K B W0 f) (ts := fun _ _ _ _ _ _ => False) hs hf hc tk (fun Wx pn xe _ hp => hb pn xe hp) (fun a oe cls d pn _ _ => ⟨fun _ _ _ _ _ _ z => z.elim⟩)) fun D σ H h => ?_
  obtain ⟨R, e, r, h⟩ := h
  refine ⟨R, e, r, ?_⟩
  have h : AfterS X.K B W R (fTry f e) D := h
  unfold fTry at h
  cases q : f e with
  | ex c => rw [q] at h; exact h.elim
  | bad => rw [q] at h; exact h.elim
  | nx e1 => rw [q] at h; exact h
  | bk e1 => rw [q] at h; exact h
  | ct e1 => rw [q] at h; exact h
  | rt rv e1 => rw [q] at h; exact h
theorem takes_W0 {mg : Mg} : Takes X (WW mg W0) := fun u s' ⟨a, B, sI, pins, σ, H, cls, d, e, I, nb, up, sky, na, os, ag, c, C, h1, h2, h3⟩ => h3.elim
end

/-! ### list(range(n)), tuple(range(n)) -/
def rgKL (lo : Int) (ra : Rv) (e : Ev) : Rs Rv := match res e ra with
  | some (.int n) => if -100000 ≤ n ∧ n ≤ 100000 then .ok (.fl (rngD lo (n - lo).toNat)) e else .bad
  | _ => .bad
def rgKT (lo : Int) (ra : Rv) (e : Ev) : Rs Rv := match res e ra with
  | some (.int n) => if -100000 ≤ n ∧ n ≤ 100000 then .ok (.sh (.tuple (rngD lo (n - lo).toNat))) e else .bad
  | _ => .bad
def fLRg (fa : Ev → Rs Rv) (e : Ev) : Rs Rv := (fa e).bind (rgKL 0)
def fTRg (fa : Ev → Rs Rv) (e : Ev) : Rs Rv := (fa e).bind (rgKT 0)
section
variable {X : Cx} {B : Bs} {W : Wx} {a : Expr} {fa : Ev → Rs Rv} {p q pos pos2 : Pos}
theorem rgV_dn {K : Fg} {R : Hp} (n : Int) : DnA K R (rgV 0 n) (rngD 0 (n - 0).toNat) := by
  have := DnA.ints (K := K) (H := R) ((List.range (n - 0).toNat).map fun i => (0 : Int) + (i : Nat))
  rw [List.map_map, List.map_map] at this
  exact this
theorem dx_lrg (hc : X.calm = true) (hg : Gl X "list") (hm : X.mg "list" = none) (hg2 : Gl X "range") (hm2 : X.mg "range" = none) (ha : DX X B W a fa) (hs : noStar [a] = true) : DX X B W (.Call (.Name "list" p) [.Call (.Name "range" q) [a] [] pos2] [] pos) (fLRg fa) := by
  refine pe_imp (pe_listRg hc hg hm (prg_1 hg2 hm2 ha (star_cons hs)) (star_cons (by rfl))) fun σ H Q h => ?_
  refine te_mono (tX_bind h) fun x H1 ⟨R, e, rv, r, vr, h⟩ => ?_
  unfold rgKL at h
  split at h
  · rename_i n qn
    split at h
    · rename_i hz
      refine ⟨n, dc_int (vr.dc r qn), ⟨by omega, by omega, by omega, by omega, by omega⟩, fun l hl => ?_⟩
      exact resQ_of (o := .fl _) r (fun _ z => nomatch z) h l _ hl (rgV_dn n)
    · exact h.elim
  · exact h.elim
theorem dx_trg (hc : X.calm = true) (hg : Gl X "tuple") (hm : X.mg "tuple" = none) (hg2 : Gl X "range") (hm2 : X.mg "range" = none) (ha : DX X B W a fa) (hs : noStar [a] = true) : DX X B W (.Call (.Name "tuple" p) [.Call (.Name "range" q) [a] [] pos2] [] pos) (fTRg fa) := by
  refine pe_imp (pe_tupRg hc hg hm (prg_1 hg2 hm2 ha (star_cons hs)) (star_cons (by rfl))) fun σ H Q h => ?_
  refine te_mono (tX_bind h) fun x H1 ⟨R, e, rv, r, vr, h⟩ => ?_
  unfold rgKT at h
  split at h
  · rename_i n qn
    split at h
    · rename_i hz
      refine ⟨n, dc_int (vr.dc r qn), ⟨by omega, by omega, by omega, by omega, by omega⟩, fun l hl => ?_⟩
      have n := r.rnn hl
      exact (resQ_of (o := .sh _) r (fun _ z => nomatch z) h).2 l _ hl (.tup (SqT.of upd_same) ((rgV_dn _).mono (same_new n)))
    · exact h.elim
  · exact h.elim
end
end PV
namespace PV
open PySem PySem.Spec PyProof.Rows L2
def dcAt : Sl → Option (List (PyData × PyData))
  | .od es => some es
  | .sh (.dict es) => if isScr es = true then none else some es
  | _ => none
def fGet (i : Nat) (fk fd : Ev → Rs Rv) (e : Ev) : Rs Rv := match dcAt (e.at i) with
  | some _ => (stab (fk e)).bind fun rk e1 => match rk with
    | .sh dk => (stab (fd e1)).bind fun rd e2 => match rd, keyOf dk, dcAt (e2.at i) with
      | .sh dd, some k, some es => .ok (.sh ((lookD es k).getD dd)) e2
      | _, _, _ => .bad
    | _ => .bad
  | none => .bad
section
variable {X : Cx} {B : Bs} {W : Wx} {a b : Expr} {fk fd : Ev → Rs Rv} {pos p apos : Pos}
theorem dcAt_ref {i : Nat} {es : List (PyData × PyData)} {R H : Hp} {σ : L2.St} {e : Ev} (rl : Rel X.K B R σ H e) (h : dcAt (e.at i) = some es) : ∃ l kvs, nm σ i = some (.ref l) ∧ H l = some (.dK kvs) ∧ DnK X.K R kvs es := by
  have s := rl.sl i
  cases qi : e.at i with
  | un => rw [qi] at h; cases h
  | ow d => rw [qi] at h; cases h
  | od es1 =>
    rw [qi] at h s
    cases h
    obtain ⟨l, kvs, h1, h2, h3, h4⟩ := s
    exact ⟨l, kvs, h1, h3, h4⟩
  | sh d =>
    rw [qi] at h s
    obtain ⟨v, h1, h2⟩ := s
    cases d with
    | dict es1 =>
      simp only [dcAt] at h
      split at h
      · cases h
      · rename_i hs
        cases h
        obtain ⟨l, kvs, rfl, h3, h4⟩ := dc_dct rl.sub hs (.st h2)
        exact ⟨l, kvs, h1, h3, h4⟩
    | _ => cases h
theorem few_two {env : Env} (h : noStar [a, b] = true) : ((backTo pos (starEach [a, b] env)).all (fun x => !x.1) && (backToKw pos (keywordEach [] env)).all (fun x => x.1.isSome)
      && decide (([a, b] : List Expr).length + ([] : List Keyword).length + (if ([] : List Keyword).isEmpty then 0 else 1) < 30)) = true := few_ok h (show 2 < 20 by decide)
theorem dx_get {i : Nat} {x : Str} (hu : X.A.units + 1 < cLine) (hN : X.N[i]? = some x) (hv : Vis X.env.scope x) (hd : (x == ("__debug__" : Str)) = false) (hcd : (x == ("__classdict__" : Str)) = false)
    (hs : noStar [a, b] = true) (hline : (apos.endLine == pos.line) = true) (ha : DX X B W a fk) (hb : DX X B W b fd) :
    DX X B W (.Call (.Attribute (.Name x p) "get" apos) [a, b] [] pos) (fGet i fk fd) := by
  have m : M2 X (.Name x p) "get" apos a b pos := ⟨rfl, few_two hs, hline, by rw [star_cons hs, star_cons (noStar_tail hs)]; rfl⟩
  refine pe_imp (pe_dget2 hu (pe_var hN hv hd hcd) (dx_stab ha) (dx_stab hb) m) fun σ H Q h => ?_
  obtain ⟨R, e, r, h⟩ := h
  have h : After X.K B W σ R H e (fGet i fk fd e) Q := h
  unfold fGet at h
  split at h
  · rename_i es0 q0
    obtain ⟨l, kvs, h1, h2, h3⟩ := dcAt_ref r q0
    refine ⟨.ref l, nm_get h1, l, rfl, .inl ⟨kvs, .inl h2⟩, R, e, r, ?_⟩
    show After X.K B W σ R H e (stab (fk e)) _
    cases q1 : stab (fk e) with
    | ex c => rw [q1] at h; exact h
    | bad => rw [q1] at h; exact h
    | ok rk e1 =>
      rw [q1] at h
      intro y R1 H1 s1 r1 f1 t1 v1
      simp only [Rs.bind] at h
      cases rk with
      | fl d => exact h.elim
      | fd d => exact h.elim
      | sl d => exact h.elim
      | sh dk =>
        have v1 : Dn X.K R1 y dk := v1
        simp only at h
        have h := after_seq s1 f1 t1 h
        refine ⟨R1, e1, r1, ?_⟩
        show After X.K B W σ R1 H1 e1 (stab (fd e1)) _
        cases q2 : stab (fd e1) with
        | ex c => rw [q2] at h; exact h
        | bad => rw [q2] at h; exact h
        | ok rd e2 =>
          rw [q2] at h
          intro z R2 H2 s2 r2 f2 t2 v2
          simp only at h
          split at h
          · rename_i dd k es hk he
            have v2 : Dn X.K R2 z dd := v2
            have h := after_seq s2 f2 t2 h
            obtain ⟨l', kvs2, g1, g2, g3⟩ := dcAt_ref r2 he
            rw [h1] at g1; cases g1
            have yk := v1.key hk
            subst yk
            refine ⟨valV kvs2 k, DGet.k g2, ?_⟩
            rcases g3.look (k := k) with ⟨w, d2, e2, e3, e4⟩ | ⟨e2, e3⟩
            · rw [e2]
              rw [e3] at h
              exact h w R2 H2 (Same.refl _) r2 .refl (.refl _) e4
            · rw [e2]
              rw [e3] at h
              exact h z R2 H2 (Same.refl _) r2 .refl (.refl _) v2
          · exact h.elim
  · exact h.elim
end
end PV
namespace PV
open PySem PySem.Spec PyProof.Rows L2
abbrev emptySet (w : World) : Obj := { cls := .type "set", dict := none, data := .set #[] 0 (.fresh 0 0 (!w.params.followText "set-order")) }
section
variable {P : Program} {w : World} {A : Around} {E : Value → Shared → Prop} {s : Shared}
set_option maxHeartbeats 3200000 in
theorem set_of_list {c : Addr} {vals : Array Value} (ns : List Int) {Q : Value → Shared → Prop} (calm : A.handled = none) (lc : s.heap.IsList c vals) (num : IntsAre vals.toList ns) (room : ns.length + 1 < scanBound)
    (fin : ∀ (g : Heap) (tk m : Nat), SetR w g s.heap.objs.size (fun j => decide (j ∈ ns)) m → m ≤ ns.length → (∀ b o, s.heap.get? b = some o → g.get? b = some o) → Q (.ref s.heap.objs.size) { s with heap := g, toks := tk }) :
    wpAny (model P w) A (call (.type "set") [.ref c]) Q E s := by
  have sz : vals.size = ns.length := by
    have h := IntsAre.length num
    rwa [Array.length_toList] at h
  obtain ⟨f1, f2, f3⟩ := F.called_set.mro
  have g1 := F.called_set.made
  have g2 := F.called_set.sub
  refine wpAny_call (codeAny_of_tree ?_)
  show wpAny _ _ (callAny (.type "set") _) _ _ _
  refine wpAny_pure ⟨Code.quiet_builtin _ (by decide +kernel), codeAny_builtin F.entry_type_call ?_⟩
  rw [Around.under_plain (weight_type_call_type "set" [.ref c] []) rfl]
  have g3 := F.called_set.notType
  have g4 := F.called_set.canCreate
  have g5 := F.typeCall_set_1 (.ref c)
  repeat (any_goals (first | assumption | wp_step))
  refine codeAny_mono (code_set_led1 (.ref c) (E := E) (Q₁ := fun v s1 => v = .ref s.heap.objs.size ∧ s1 = { s with heap := s.heap.push (emptySet w) }) ⟨rfl, rfl⟩) fun r s1 hr => ?_
  cases r with
  | error e => exact hr
  | ok fl =>
    cases fl with
    | ret v =>
      obtain ⟨rfl, rfl⟩ := hr
      have made : (s.heap.push (emptySet w)).get? s.heap.objs.size = some (emptySet w) := Heap.get?_push_size _ rfl
      have ty : Shared.TypeIs { s with heap := s.heap.push (emptySet w) } (.ref s.heap.objs.size) "set" := ⟨_, made, rfl⟩
      have k1 := F.called_set.init.lookup
      have k2 := F.called_set.init.bind (.ref s.heap.objs.size)
      repeat (any_goals (first | assumption | wp_step))
      refine codeAny_mono (codeAny_call_builtin (R := wants (fun r s2 => r = .none ∧ ∃ g tk m, s2 = { s with heap := g, toks := tk } ∧ SetR w g s.heap.objs.size (fun j => decide (j ∈ ns)) m ∧ m ≤ ns.length ∧
          (∀ b o, s.heap.get? b = some o → g.get? b = some o)) E) F.called_set.init.plain F.entry_set_init (check_set_init_1 ty ?_)) fun r2 s2 hr2 => ?_
      · obtain ⟨o, ho, hcl, ne, hdt⟩ := id lc
        obtain ⟨oc, od, oda, os⟩ := o
        simp only at hcl hdt
        have hcb : c < s.heap.objs.size := Heap.lt_size ho
        subst hcl; subst hdt
        have ho1 : (s.heap.push (emptySet w)).get? c = some { cls := .type "list", dict := od, data := .seq vals ne, slots := os } := Heap.get?_push_of_some _ ho
        have lc1 : (s.heap.push (emptySet w)).IsList c vals := Heap.IsList.push lc _
        have n1 := F.sub_list_set
        have n2 := F.sub_list_frozenset
        have n3 : (Value.type "list" == Value.type "dict") = false := by decide
        unfold Builtin.«set.__init__» noKeywords Builtin.Frozenset.updateFrom
        generalize hw : pyIter = walk
        wp_walk
        subst hw
        refine wpAny_pyIter_list lc1 ?_
        refine wpAny_bind (wpAny_runValue ?_)
        have calm3 : A.in1.in1.in1.handled = none := by simp [calm]
        have sz1 : (s.heap.push (emptySet w)).objs.size = s.heap.objs.size + 1 := Heap.size_push ..
        have apart1 : c ≠ (s.heap.push (emptySet w)).objs.size := by
          rw [sz1]; exact Nat.ne_of_lt (Nat.lt_succ_of_lt hcb)
        have apart2 : s.heap.objs.size ∉ [(s.heap.push (emptySet w)).objs.size, c] := by
          rw [sz1]
          intro z
          rcases List.mem_cons.mp z with z | z
          · exact absurd z (Nat.ne_of_lt (Nat.lt_succ_self _))
          · exact absurd (List.mem_singleton.mp z) (Nat.ne_of_gt hcb)
        have each : ∀ (i : Nat) (v : Value), vals[i]? = some v → ∃ k t, ns[i]? = some k ∧ v = .int k t := fun i v hv => by
          have hi : i < ns.length := by rw [← sz]; exact (Array.getElem?_eq_some_iff.mp hv).1
          obtain ⟨t, e⟩ := PyProof.Rows.IntsAre.int_at num i v (by rw [Array.getElem?_toList]; exact hv)
          refine ⟨ns[i], t, List.getElem?_eq_getElem hi, ?_⟩
          rw [e, List.getD_eq_getElem?_getD, List.getElem?_eq_getElem hi] <;> rfl
        refine set_update_ints ((Walks.list calm3 _ c apart1 vals).toS) s.heap.objs.size
          apart2 ns sz room each (vals.size - 0) 0 _ (by omega) (Nat.zero_le _)
          ⟨⟨_, Heap.get?_push_size _ rfl, rfl, rfl⟩, (lc1.push _)⟩ ⟨0, Nat.le_refl 0, setR_new_at (Heap.get?_push_of_some _ made)⟩ ?_
        intro s3 m3 moved hm3 hS3
        obtain ⟨g3, y2, d3, tk3, os3⟩ := s3
        have e1 : y2 = s.gens := moved.gens
        have e2 : d3 = s.drawn := moved.drawn
        have e3 : os3 = s.os := moved.os
        subst e1; subst e2; subst e3
        show wpAny _ _ _ _ _ _
        refine wpAny_pure ?_
        show wpAny _ _ (ret Value.none) _ _ _
        rw [sz] at hm3
        refine wpAny_pure ⟨rfl, g3, tk3, m3, rfl, hS3, hm3, fun b o e => ?_⟩
        have b0 : b < s.heap.objs.size := Heap.lt_size e
        refine moved.heap b o (fun z => ?_) (Heap.get?_push_of_some _ (Heap.get?_push_of_some _ e))
        rcases List.mem_cons.mp z with z | z
        · exact absurd z (Nat.ne_of_lt b0)
        · rw [List.mem_singleton.mp z, sz1] at b0
          exact absurd b0 (Nat.not_lt_of_lt (Nat.lt_succ_self _))
      · cases r2 with
        | error e => exact hr2
        | ok f2 =>
          cases f2 with
          | ret r =>
            obtain ⟨rfl, g, tk, m, rfl, hS, hm, hk⟩ := hr2
            repeat (any_goals (first | assumption | wp_step))
            exact fin _ _ _ hS hm hk
          | _ => exact hr2.elim
    | _ => exact hr.elim
end
end PV
namespace PV
open PySem PySem.Spec PyProof.Rows L2
/-- each number once, rising -/
def insU (x : Int) : List Int → List Int
  | [] => [x]
  | y :: r => if x < y then x :: y :: r else if x = y then y :: r else y :: insU x r
def sset : List Int → List Int
  | [] => []
  | x :: r => insU x (sset r)
theorem insU_mem (x : Int) : ∀ r z, z ∈ insU x r ↔ z = x ∨ z ∈ r
  | [], z => by simp [insU]
  | y :: r, z => by
    unfold insU
    split
    · simp
    · split
      · rename_i e; subst e
        simp
      · rw [List.mem_cons, insU_mem x r, List.mem_cons]
        constructor
        · rintro (h | h | h)
          · exact .inr (.inl h)
          · exact .inl h
          · exact .inr (.inr h)
        · rintro (h | h | h)
          · exact .inr (.inl h)
          · exact .inl h
          · exact .inr (.inr h)
theorem insU_pw (x : Int) : ∀ r : List Int, r.Pairwise (· < ·) → (insU x r).Pairwise (· < ·)
  | [], _ => by simp [insU]
  | y :: r, h => by
    have h1 := List.pairwise_cons.mp h
    unfold insU
    split
    · rename_i l
      refine List.pairwise_cons.mpr ⟨fun z hz => ?_, h⟩
      rcases List.mem_cons.mp hz with e | e
      · omega
      · have := h1.1 z e; omega
    · split
      · exact h
      · refine List.pairwise_cons.mpr ⟨fun z hz => ?_, insU_pw x r h1.2⟩
        rcases (insU_mem x r z).mp hz with e | e
        · omega
        · exact h1.1 z e
theorem sset_mem : ∀ r z, z ∈ sset r ↔ z ∈ r
  | [], z => Iff.rfl
  | x :: r, z => by
    show z ∈ insU x (sset r) ↔ _
    rw [insU_mem, sset_mem r, List.mem_cons]
theorem sset_pw : ∀ r, (sset r).Pairwise (· < ·)
  | [] => .nil
  | x :: r => insU_pw x _ (sset_pw r)
theorem rising_one {xs ys : List Int} (hx : xs.Pairwise (· < ·)) (hy : ys.Pairwise (· < ·)) (h : ∀ z, z ∈ xs ↔ z ∈ ys) : xs = ys := by
  induction xs generalizing ys with
  | nil =>
    cases ys with
    | nil => rfl
    | cons y ys => exact absurd ((h y).mpr List.mem_cons_self) (by simp)
  | cons x xs ih =>
    cases ys with
    | nil => exact absurd ((h x).mp List.mem_cons_self) (by simp)
    | cons y ys =>
      have hx1 := List.pairwise_cons.mp hx
      have hy1 := List.pairwise_cons.mp hy
      have e : x = y := by
        rcases List.mem_cons.mp ((h x).mp List.mem_cons_self) with e | e
        · exact e
        · rcases List.mem_cons.mp ((h y).mpr List.mem_cons_self) with e2 | e2
          · exact e2.symm
          · have := hy1.1 x e; have := hx1.1 y e2; omega
      subst e
      rw [ih hx1.2 hy1.2 fun z => ?_]
      constructor
      · intro hz
        rcases List.mem_cons.mp ((h z).mp (List.mem_cons_of_mem _ hz)) with e | e
        · have := hx1.1 z hz; omega
        · exact e
      · intro hz
        rcases List.mem_cons.mp ((h z).mpr (List.mem_cons_of_mem _ hz)) with e | e
        · have := hy1.1 z hz; omega
        · exact e
def rSetI (K : Fg) (w : World) : List V → Hp → VK → Prop := fun xs H Q => ∃ (a : Addr) (ns : List Int), xs = [.ref a] ∧ SqL K H a (ns.map V.int) ∧ ns.length + 1 < scanBound ∧
  ∀ p m, H p = none → m ≤ ns.length → Q (.ref p) (upd H p (SetO w p (fun j => decide (j ∈ ns)) m))
theorem cr_setI {X : Cx} (calm : X.calm = true) : CallR X (.type "set") (rSetI X.K X.w) := by
  intro pins s σ H xs us Q I r h
  obtain ⟨a, ns, rfl, hq, room, q⟩ := h
  obtain ⟨its, rv, lp, _⟩ := I.list hq
  rw [Vals.ref1 r]
  exact set_of_list ns (I.ok.hd calm) lp.isList rv.ints room fun g tk m new hm keep => ⟨.ref _, _, I.laid (t' := tk) keep (Nat.le_refl _) (setO_new new), rfl, q _ m (I.hok.fresh (Nat.le_refl _)) hm⟩
def fSSet (fa : Ev → Rs Rv) (e : Ev) : Rs Rv := (stab (fa e)).bind fun rv e1 => match res e1 rv with
  | some (.list ds) => (match intsOf ds with
    | some ns => if ns.length < 63 then .ok (.fl ((sset ns).map .int)) e1 else .bad
    | none => .bad)
  | _ => .bad
theorem dx_sset {X : Cx} {B : Bs} {W : Wx} {a : Expr} {fa : Ev → Rs Rv} {pos p p2 pos2 : Pos} (calm : X.calm = true) (hg : Gl X "sorted") (hm : X.mg "sorted" = none) (hg2 : Gl X "set") (hm2 : X.mg "set" = none) (hs : noStar [a] = true) (ha : DX X B W a fa) :
    DX X B W (.Call (.Name "sorted" p) [.Call (.Name "set" p2) [a] [] pos2] [] pos) (fSSet fa) := by
  have inner := pe_callTy (X := X) (p := p2) (pos := pos2) (cr_setI calm) hg2 hm2 (show bootBuiltins "set" = some (.type "set") by rfl) (pa_cons (dx_stab ha) pa_nil (star_cons hs)) (by decide) (by decide) (star_cons hs) (noStar_flat (noStar_tail hs))
  refine pe_imp (pe_callB (cr_sortedSet calm) hg hm boot_sorted (pa_cons inner pa_nil rfl)) fun σ H Q h => ?_
  obtain ⟨R, e, r, h⟩ := h
  refine ⟨R, e, r, ?_⟩
  have h : After X.K B W σ R H e (fSSet fa e) Q := h
  unfold fSSet at h
  show After X.K B W σ R H e (stab (fa e)) _
  cases q : stab (fa e) with
  | ex c => rw [q] at h; exact h
  | bad => rw [q] at h; exact h
  | ok rv e1 =>
    rw [q] at h
    intro x R1 H1 s1 r1 f1 t1 v1
    simp only [Rs.bind] at h
    split at h
    · rename_i ds hr
      split at h
      · rename_i ns hn
        split at h
        · rename_i hl
          have h := after_seq s1 f1 t1 h
          obtain ⟨b, vs, rfl, g1, g2⟩ := dc_lst r1.sub (v1.dc r1 hr)
          cases intsOf_eq hn
          cases g2.of_ints
          refine ⟨b, ns, rfl, SqL.of g1, Nat.lt_of_le_of_lt (show ns.length + 1 ≤ 63 by omega) (show 63 < scanBound by decide), fun p m hp hm => ?_⟩
          refine ⟨p, _, m, rfl, upd_same, Nat.lt_of_le_of_lt hm (by omega), fun ns' p' hpw hmem hlen hp' => ?_⟩
          have e1 : ns' = sset ns := rising_one hpw (sset_pw ns) fun z => by
            rw [hmem, sset_mem]
            exact decide_eq_true_iff
          subst e1
          have r2 := r1.new_own (o := SetO X.w p (fun j => decide (j ∈ ns)) m) hp
          have r3 := r2.new_own (o := .lst ((sset ns).map V.int)) hp'
          exact h (.ref p') R1 _ (Same.refl _) r3 ((Frm.of_new hp).trans (.refl _) (.of_new hp')) (.refl _) ⟨p', _, rfl, r2.rnn hp', upd_same, DnA.ints _, r2.not_own hp', r2.h0n hp'⟩
        · exact h.elim
      · exact h.elim
    · exact h.elim
end PV
namespace PV
open PySem PySem.Spec PyProof.Rows L2
def rLenS (w : World) : List V → Hp → VK → Prop := fun xs H Q => ∃ (a : Addr) (S : Int → Bool) (n : Nat), xs = [.ref a] ∧ H a = some (SetO w a S n) ∧ n < 63 ∧ ∀ ns : List Int, ns.Nodup → (∀ k, k ∈ ns ↔ S k = true) → ns.length = n → Q (.int (n : Nat)) H
theorem cr_lenS {X : Cx} : CallR X (.builtin "len") (rLenS X.w) := by
  intro pins s σ H xs us Q I r h
  obtain ⟨a, S, n, rfl, hq, hn, q⟩ := h
  have hS : SetR X.w s.heap a S n := (show _ ∧ _ from I.hok a _ hq).1
  obtain ⟨o, es, ep, t, h1, h2, h3, h4, h5, h6, h7, h8, h9, h10, h11⟩ := hS
  rw [Vals.ref1 r]
  refine call_len_set h1 h2 h3 h8 (by rw [h9]; omega) ?_
  refine ⟨.int (n : Nat), H, I.kept (t' := s.toks + 1 + 1) (fun _ _ h => h), ⟨_, by rw [h9]⟩, q (es.toList.map L2.keyOf) h5 (fun k => (h6 k).symm) ?_⟩
  rw [List.length_map, Array.length_toList, h9]
def fLSet (fa : Ev → Rs Rv) (e : Ev) : Rs Rv := (stab (fa e)).bind fun rv e1 => match res e1 rv with
  | some (.list ds) => (match intsOf ds with
    | some ns => if ns.length < 63 then .ok (.sh (.int ((sset ns).length : Nat))) e1 else .bad
    | none => .bad)
  | _ => .bad
theorem dx_lset {X : Cx} {B : Bs} {W : Wx} {a : Expr} {fa : Ev → Rs Rv} {pos p p2 pos2 : Pos} (calm : X.calm = true) (hg : Gl X "len") (hm : X.mg "len" = none) (hg2 : Gl X "set") (hm2 : X.mg "set" = none) (hs : noStar [a] = true) (ha : DX X B W a fa) :
    DX X B W (.Call (.Name "len" p) [.Call (.Name "set" p2) [a] [] pos2] [] pos) (fLSet fa) := by
  have inner := pe_callTy (X := X) (p := p2) (pos := pos2) (cr_setI calm) hg2 hm2 (show bootBuiltins "set" = some (.type "set") by rfl) (pa_cons (dx_stab ha) pa_nil (star_cons hs)) (by decide) (by decide) (star_cons hs) (noStar_flat (noStar_tail hs))
  refine pe_imp (pe_callB cr_lenS hg hm (show bootBuiltins "len" = some (.builtin "len") by rfl) (pa_cons inner pa_nil rfl)) fun σ H Q h => ?_
  obtain ⟨R, e, r, h⟩ := h
  refine ⟨R, e, r, ?_⟩
  have h : After X.K B W σ R H e (fLSet fa e) Q := h
  unfold fLSet at h
  show After X.K B W σ R H e (stab (fa e)) _
  cases q : stab (fa e) with
  | ex c => rw [q] at h; exact h
  | bad => rw [q] at h; exact h
  | ok rv e1 =>
    rw [q] at h
    intro x R1 H1 s1 r1 f1 t1 v1
    simp only [Rs.bind] at h
    split at h
    · rename_i ds hr
      split at h
      · rename_i ns hn
        split at h
        · rename_i hl
          have h := after_seq s1 f1 t1 h
          obtain ⟨b, vs, rfl, g1, g2⟩ := dc_lst r1.sub (v1.dc r1 hr)
          cases intsOf_eq hn
          cases g2.of_ints
          refine ⟨b, ns, rfl, SqL.of g1, Nat.lt_of_le_of_lt (show ns.length + 1 ≤ 63 by omega) (show 63 < scanBound by decide), fun p m hp hm => ?_⟩
          refine ⟨p, _, m, rfl, upd_same, Nat.lt_of_le_of_lt hm hl, fun ns' hnd hmem hlen => ?_⟩
          have e1 : m = (sset ns).length := by
            rw [← hlen]
            have hn2 : (sset ns).Nodup := (sset_pw ns).imp fun h => Int.ne_of_lt h
            refine ((List.perm_ext_iff_of_nodup hnd hn2).mpr fun z => ?_).length_eq
            rw [hmem, sset_mem]
            exact decide_eq_true_iff
          subst e1
          have r2 := r1.new_own (o := SetO X.w p (fun j => decide (j ∈ ns)) (sset ns).length) hp
          exact h (.int _) R1 _ (Same.refl _) r2 (.of_new hp) (.refl _) (.int _)
        · exact h.elim
      · exact h.elim
    · exact h.elim
end PV
namespace PV
open PySem PySem.Spec PyProof.Rows L2

/-! ### what stands around -/
structure Cc where
  N : List Str
  io : Bool
  sc : Scope
  fn : Str → Bool
  fs : Str → Option (Nat × Bool × Fn)
  cs : Str → Option PyData
  fr : Str → Bool
  xs : Str → Bool
  wn : Nat
  ks : Str → List Str → Option (List Nat) := fun _ _ => none
  ec : Str → Bool := fun _ => false
  ds : Str → Option (Str → Option PyData) := fun _ => none
structure Evs where
  e : Expr → Ev → Rs Rv
  t : Expr → Ev → Rs Bool
def fBad : Ev → Rs Rv := fun _ => .bad
def fBadB : Ev → Rs Bool := fun _ => .bad
def fBadI : Ev → Rs (List PyData) := fun _ => .bad
def ixOf (x : Str) : List Str → Option Nat
  | [] => none
  | y :: r => if y = x then some 0 else (ixOf x r).map (· + 1)
theorem ixOf_get {x : Str} : ∀ {N : List Str} {i : Nat}, ixOf x N = some i → N[i]? = some x
  | [], i, h => by cases h
  | y :: r, i, h => by
    unfold ixOf at h
    split at h
    · rename_i q; cases h; rw [q]; rfl
    · cases q1 : ixOf x r with
      | none => rw [q1] at h; cases h
      | some j => rw [q1] at h; cases h; show r[j]? = some x; exact ixOf_get q1
def visB (sc : Scope) (x : Str) : Bool := (sc.names.lookup x == some .local || sc.names.lookup x == some .cell || sc.names.lookup x == some .free) && !(x == ("__debug__" : Str)) && !(x == ("__classdict__" : Str))
theorem visB_ok {sc : Scope} {x : Str} (h : visB sc x = true) : Vis sc x ∧ (x == ("__debug__" : Str)) = false ∧ (x == ("__classdict__" : Str)) = false := by
  unfold visB at h
  simp only [Bool.and_eq_true, Bool.or_eq_true, beq_iff_eq, Bool.not_eq_true'] at h
  refine ⟨?_, h.1.2, h.2⟩
  rcases h.1.1 with (h | h) | h
  · exact .inl h
  · exact .inr (.inl h)
  · exact .inr (.inr h)
def glB (sc : Scope) (x : Str) : Bool := (sc.names.lookup x == some .globalImplicit) && !(x == ("__debug__" : Str)) && !(x == ("__name__" : Str))
def locB (C : Cc) (x : Str) : Bool := (C.sc.names.lookup x == some .local || C.sc.names.lookup x == some .cell) && (C.fn x || C.sc.names.lookup x == some .local)
structure CxIs (X : Cx) (W : Wx) (C : Cc) : Prop where
  N : X.N = C.N
  nd : X.N.Nodup
  sc : X.env.scope = C.sc
  fn : X.fn = C.fn
  calm : X.calm = true
  hu : X.A.units + 200 < cLine
  gd : X.A.guards = some []
  sm : ∃ o, X.base.get? sysModules = some o
  fs : ∀ x n b F, C.fs x = some (n, b, F) → F.io = b ∧ ∃ (f : Addr) (fd : FuncData) (k : Nat) (ps : List Str), FnG X.prog X.w X.K X.mg X.base k f fd ps (spFn X.K X.mg ps.length F) ∧ ps.length = n ∧ Room k X.A ∧ X.mg x = some (.ref f) ∧ PySem.W.keepIn X.K (.ref f) = true ∧ Binds X.K fd ps [] ∧ ∀ kn pm, C.ks x kn = some pm → KwB fd ps kn pm
  ec : ∀ x, C.ec x = true → ∃ c, X.mg x = some (.ref c)
  cs : ∀ x d, C.cs x = some d → ∃ v u, X.mg x = some u ∧ RelV v u ∧ ∀ H : Hp, Dn X.K H v d
  ds : ∀ x T, C.ds x = some T → ∃ a es n, KDict X.K X.w a es n ∧ X.mg x = some (.ref a) ∧ ∀ z d, T z = some d → ∃ u0 v0, PySem.W.nsIn X.K a z = some (some u0) ∧ RelV v0 u0 ∧ ∀ H : Hp, Dn X.K H v0 d
  fr : ∀ x, C.fr x = true → X.mg x = none
  tk : Takes X (WW X.mg W)
section
variable {X : Cx} {W : Wx} {C : Cc}
theorem CxIs.gl (c : CxIs X W C) {x : Str} (h : glB C.sc x = true) : Gl X x ∧ (x == ("__debug__" : Str)) = false ∧ x ≠ "__name__" := by
  unfold glB at h
  simp only [Bool.and_eq_true, beq_iff_eq, Bool.not_eq_true'] at h
  refine ⟨?_, h.1.2, fun z => ?_⟩
  · show X.env.scope.names.lookup x = _
    rw [c.sc]; exact h.1.1
  · have := h.2
    rw [z] at this
    exact absurd this (by decide)
theorem CxIs.ix (c : CxIs X W C) {x : Str} {i : Nat} (h : ixOf x C.N = some i) : X.N[i]? = some x := by rw [c.N]; exact ixOf_get h
theorem CxIs.vis (c : CxIs X W C) {x : Str} (h : visB C.sc x = true) : Vis X.env.scope x ∧ (x == ("__debug__" : Str)) = false ∧ (x == ("__classdict__" : Str)) = false := by rw [c.sc]; exact visB_ok h
theorem CxIs.loc (c : CxIs X W C) {x : Str} (h : locB C x = true) : Loc X.env.scope x ∧ (X.fn x = true ∨ X.env.scope.names.lookup x = some .local) := by
  unfold locB at h
  simp only [Bool.and_eq_true, Bool.or_eq_true, beq_iff_eq] at h
  rw [c.sc, c.fn]
  exact ⟨h.1, h.2⟩
end

/-! ### operators -/
def binTab : Operator → Option (PyData → PyData → Option Od)
  | .Add => some gAdd
  | .Sub => some gSub
  | .Mult => some gMul
  | .FloorDiv => some gDiv
  | .Mod => some gMod
  | .Pow => some gPow
  | _ => none
theorem binTab_ok {X : Cx} {op : Operator} {g : PyData → PyData → Option Od} (h : binTab op = some g) : ∃ r, OpR X (binaryOp op) r ∧ BinD X.K r g := by
  cases op <;> simp only [binTab, Option.some.injEq, reduceCtorEq] at h <;> subst h
  · exact ⟨_, op_addA, gAdd_ok⟩
  · exact ⟨_, op_sub, gSub_ok⟩
  · exact ⟨_, op_mulA, gMul_ok⟩
  · exact ⟨_, op_mod, gMod_ok⟩
  · exact ⟨_, op_pow, gPow_ok⟩
  · exact ⟨_, op_fdiv, gDiv_ok⟩
/-- a tuple of any things against the empty one -/
def rEqT0 (K : Fg) : R2 := fun x y H Q => ∃ a b xs, x = .ref a ∧ y = .ref b ∧ SqT K H a xs ∧ SqT K H b [] ∧ Q (.bl xs.isEmpty) H
theorem op_eqT0 {X : Cx} (hu : X.A.units < cLine) : OpR X (compareOp .Eq) (rEqT0 X.K) := by
  intro pins s σ H x y v u Q I rx ry h
  obtain ⟨a, b, xs, rfl, rfl, h1, h2, q⟩ := h
  cases rx
  cases ry
  obtain ⟨its, r1, p1, _⟩ := I.tuple h1
  obtain ⟨its2, r2, p2, _⟩ := I.tuple h2
  cases r2
  refine SeqAt.eq_tupleAt (e := fun _ => true) (show s.heap.IsTuple a its.toArray from p1) (show s.heap.IsTuple b ([] : List Value).toArray from p2) hu (fun j _ h => absurd h (Nat.not_lt_zero _)) ?_
  refine ⟨.bl xs.isEmpty, H, I, ?_, q⟩
  cases r1 with
  | nil => rfl
  | cons _ _ => rfl
def gEqE (d d' : PyData) : Option Od := match gEq false d d' with
  | some o => some o
  | none => match d, d' with
    | .tuple ds, .tuple [] => some (.sh (.bool ds.isEmpty))
    | _, _ => none
theorem gEqE_ok {K : Fg} : BinD K (fun x y H Q => rEqA K false x y H Q ∨ rEqT0 K x y H Q) gEqE := by
  intro R H x y d d' o Q s hx hy hg q
  unfold gEqE at hg
  split at hg
  · rename_i ho
    cases hg
    exact .inl (gEq_ok R H x y d d' o Q s hx hy ho q)
  · split at hg
    · cases hg
      obtain ⟨a, xs, rfl, h1, h2⟩ := dc_tup hx
      obtain ⟨b, ys, rfl, h3, h4⟩ := dc_tup hy
      cases h4
      refine .inr ⟨a, b, xs, rfl, rfl, sqT_same s h1, sqT_same s h3, ?_⟩
      rw [h2.isEmpty]
      exact q.1 _ (.bl _)
    · cases hg
def gGt : PyData → PyData → Option Od := gOrd fun i j => decide (j < i)
def gGe : PyData → PyData → Option Od := gOrd fun i j => decide (j ≤ i)
def cmpTab : CmpOp → Option (PyData → PyData → Option Od)
  | .Eq => some gEqE
  | .NotEq => some (gEq true)
  | .Lt => some gLt
  | .LtE => some gLe
  | .Gt => some gGt
  | .GtE => some gGe
  | .Is => some (gIs false)
  | .IsNot => some (gIs true)
  | .In => some (gIn false)
  | .NotIn => some (gIn true)
theorem cmpTab_ok {X : Cx} (hu : X.A.units + 200 < cLine) {op : CmpOp} {g : PyData → PyData → Option Od} (h : cmpTab op = some g) : ∃ r, OpR X (compareOp op) r ∧ BinD X.K r g := by
  cases op <;> simp only [cmpTab, Option.some.injEq, reduceCtorEq] at h <;> subst h
  · exact ⟨_, OpR.or (op_eqA (by omega)) (op_eqT0 (by omega)), gEqE_ok⟩
  · exact ⟨_, op_neA (by omega), gEq_ok⟩
  · exact ⟨_, op_ltA (by omega), gLt_ok⟩
  · exact ⟨_, op_leA (by omega), gLe_ok⟩
  · exact ⟨_, op_gt, gOrd_ok⟩
  · exact ⟨_, op_ge, gOrd_ok⟩
  · exact ⟨_, op_isA, gIs_ok⟩
  · exact ⟨_, op_isnotA, gIs_ok⟩
  · exact ⟨_, op_inA (by omega), gIn_ok⟩
  · exact ⟨_, op_notinA (by omega), gIn_ok⟩

/-! ### built-ins -/
theorem CallR.or' {X : Cx} {u : Value} {r r' : List V → Hp → VK → Prop} (h : CallR X u r) (h' : CallR X u r') : CallR X u (fun xs H Q => r xs H Q ∨ r' xs H Q) := by
  intro pins s σ H xs us Q I rx q
  rcases q with q | q
  · exact h pins s σ H xs us Q I rx q
  · exact h' pins s σ H xs us Q I rx q
theorem cr_lenA {X : Cx} : CallR X (.builtin "len") (rLenA X.K) := CallR.or' call_len (by
  intro pins s σ H xs us Q I rx q
  obtain ⟨d, kvs, h1, h2, h3⟩ := q
  exact call_lenD pins s σ H xs us Q I rx ⟨d, kvs, h1, h2, h3⟩)
theorem ite_opt {c : Prop} [Decidable c] {α : Type} {a b : α} {o : Option α} (h : (if c then some a else o) = some b) : (c ∧ a = b) ∨ o = some b := by
  by_cases hc : c
  · rw [if_pos hc] at h; exact .inl ⟨hc, Option.some.inj h⟩
  · rw [if_neg hc] at h; exact .inr h
/-- built-in functions and types, by name -/
def bltTab (x : Str) : Option (List PyData → Option Od) :=
  if x = "len" then some gLen else if x = "max" then some gMax else if x = "min" then some gMin else if x = "tuple" then some gTuple else if x = "list" then some gList
  else if x = "sorted" then some gSorted else if x = "all" then some gAll else if x = "any" then some gAny else if x = "sum" then some gSum else if x = "abs" then some gAbs else if x = "int" then some gInt else if x = "repr" then some gRepr else none
theorem dx_blt {X : Cx} {B : Bs} {W : Wx} {C : Cc} (c : CxIs X W C) {x : Str} {g : List PyData → Option Od} {e0 : Expr} {es : List Expr} {fl : Ev → Rs (List Rv)} {p pos : Pos} (h : bltTab x = some g) (hg : glB C.sc x = true) (hm : C.fr x = true) (hs : noStar (e0 :: es) = true) (ha : DL X B W (e0 :: es) fl) :
    DX X B W (.Call (.Name x p) (e0 :: es) [] pos) (fCal g fl) := by
  obtain ⟨g1, g2, g3⟩ := c.gl hg
  have hm := c.fr x hm
  have hu := c.hu
  unfold bltTab at h
  rcases ite_opt h with ⟨q, rfl⟩ | h
  · exact dx_callB cr_lenA gLen_ok g1 hm (by rw [q]; exact boot_len) hs ha g3 g2
  rcases ite_opt h with ⟨q, rfl⟩ | h
  · exact dx_callB (CallR.or' (call_max2 c.calm) (cr_maxI c.calm (by omega))) gMax_ok g1 hm (by rw [q]; exact boot_max) hs ha g3 g2
  rcases ite_opt h with ⟨q, rfl⟩ | h
  · exact dx_callB (CallR.or' (call_min2 c.calm) (cr_minI c.calm (by omega))) gMin_ok g1 hm (by rw [q]; exact boot_min) hs ha g3 g2
  rcases ite_opt h with ⟨q, rfl⟩ | h
  · exact dx_callTy call_tuple_of gTuple_ok g1 hm (by rw [q]; exact boot_tuple) hs ha g3 g2
  rcases ite_opt h with ⟨q, rfl⟩ | h
  · exact dx_callTy call_list_of gList_ok g1 hm (by rw [q]; exact boot_list) hs ha g3 g2
  rcases ite_opt h with ⟨q, rfl⟩ | h
  · exact dx_callB (CallR.or' (cr_sortedA (by omega)) (call_sortedDI c.calm)) gSorted_ok g1 hm (by rw [q]; exact boot_sorted) hs ha g3 g2
  rcases ite_opt h with ⟨q, rfl⟩ | h
  · exact dx_callB (cr_all c.calm) gAll_ok g1 hm (by rw [q]; exact boot_all) hs ha g3 g2
  rcases ite_opt h with ⟨q, rfl⟩ | h
  · exact dx_callB (cr_any c.calm) gAny_ok g1 hm (by rw [q]; exact boot_any) hs ha g3 g2
  rcases ite_opt h with ⟨q, rfl⟩ | h
  · exact dx_callB (cr_sumA c.calm) gSum_ok g1 hm (by rw [q]; exact boot_sum) hs ha g3 g2
  rcases ite_opt h with ⟨q, rfl⟩ | h
  · exact dx_callB call_abs gAbs_ok g1 hm (by rw [q]; exact boot_abs) hs ha g3 g2
  rcases ite_opt h with ⟨q, rfl⟩ | h
  · exact dx_callTy call_int1 gInt_ok g1 hm (by rw [q]; exact boot_int) hs ha g3 g2
  rcases ite_opt h with ⟨q, rfl⟩ | h
  · exact dx_callB (cr_reprA c.gd (by omega) c.sm) gRepr_ok g1 hm (by rw [q]; exact boot_repr) hs ha g3 g2
  · cases h
/-- types by name -/
def tyTab (x : Str) : Option String :=
  if x = "int" then some "int" else if x = "bool" then some "bool" else if x = "str" then some "str" else if x = "list" then some "list" else if x = "tuple" then some "tuple" else if x = "dict" then some "dict" else none
theorem tyTab_ok {x : Str} {T : String} (h : tyTab x = some T) : bootBuiltins x = some (.type T) := by
  unfold tyTab at h
  rcases ite_opt h with ⟨q, rfl⟩ | h
  · rw [q]; exact boot_int
  rcases ite_opt h with ⟨q, rfl⟩ | h
  · rw [q]; exact boot_bool
  rcases ite_opt h with ⟨q, rfl⟩ | h
  · rw [q]; exact boot_str
  rcases ite_opt h with ⟨q, rfl⟩ | h
  · rw [q]; exact boot_list
  rcases ite_opt h with ⟨q, rfl⟩ | h
  · rw [q]; exact boot_tuple
  rcases ite_opt h with ⟨q, rfl⟩ | h
  · rw [q]; exact boot_dict
  · cases h
/-- methods of a name's own list -/
def mthTab (x : Str) (n : Nat) : Option (Ev → List PyData → List Rv → Option (PyData × List PyData)) :=
  if x = "append" ∧ n = 1 then some gApp else if x = "pop" ∧ n = 0 then some gPop else if x = "pop" ∧ n = 1 then some gPopAt else if x = "extend" ∧ n = 1 then some gExt else none
def fMth (i : Nat) (g : Ev → List PyData → List Rv → Option (PyData × List PyData)) (fl : Ev → Rs (List Rv)) : Ev → Rs Rv := fMethE i g fl
theorem dx_mth {X : Cx} {B : Bs} {W : Wx} {C : Cc} (c : CxIs X W C) {x name : Str} {i : Nat} {g : Ev → List PyData → List Rv → Option (PyData × List PyData)} {es : List Expr} {fl : Ev → Rs (List Rv)} {p pos apos : Pos} (h : mthTab name es.length = some g) (hN : ixOf x C.N = some i) (hv : visB C.sc x = true)
    (hs : noStar es = true) (hline : (apos.endLine == pos.line) = true) (ha : DL X B W es fl) (h0 : es = [] → fl = fNil) : DX X B W (.Call (.Attribute (.Name x p) name apos) es [] pos) (fMth i g fl) := by
  obtain ⟨v1, v2, v3⟩ := c.vis hv
  unfold mthTab at h
  rcases ite_opt h with ⟨⟨rfl, q⟩, rfl⟩ | h
  ·     match es, q with
    | [a], _ => exact dx_meth F.slot_list_append F.type_list_append (mtM_R mt_append) gApp_ok (c.ix hN) v1 v2 v3 hs (by show 1 < 20; decide) hline ha
  rcases ite_opt h with ⟨⟨rfl, q⟩, rfl⟩ | h
  ·     match es, q with
    | [], _ =>
      obtain rfl := h0 rfl
      exact dx_meth0 F.slot_list_pop F.type_list_pop (mtM_R mt_pop) gPop_ok (c.ix hN) v1 v2 v3 hline
  rcases ite_opt h with ⟨⟨rfl, q⟩, rfl⟩ | h
  ·     match es, q with
    | [a], _ => exact dx_meth F.slot_list_pop F.type_list_pop (mtM_R mt_popAt) gPopAt_ok (c.ix hN) v1 v2 v3 hs (by show 1 < 20; decide) hline ha
  rcases ite_opt h with ⟨⟨rfl, q⟩, rfl⟩ | h
  ·     match es, q with
    | [a], _ => exact dx_meth F.slot_list_extend F.type_list_extend (mtM_R mt_extend) gExt_ok (c.ix hN) v1 v2 v3 hs (by show 1 < 20; decide) hline ha
  · cases h
/-- methods that change nothing -/
def mthTabR (x : Str) (n : Nat) : Option (List PyData → List PyData → Option PyData) := if x = "count" ∧ n = 1 then some gCnt else none
theorem dx_mthR {X : Cx} {B : Bs} {W : Wx} {C : Cc} (c : CxIs X W C) {x name : Str} {i : Nat} {g : List PyData → List PyData → Option PyData} {es : List Expr} {fl : Ev → Rs (List Rv)} {p pos apos : Pos} (h : mthTabR name es.length = some g) (hN : ixOf x C.N = some i) (hv : visB C.sc x = true)
    (hs : noStar es = true) (hline : (apos.endLine == pos.line) = true) (ha : DL X B W es fl) : DX X B W (.Call (.Attribute (.Name x p) name apos) es [] pos) (fMthR i g fl) := by
  obtain ⟨v1, v2, v3⟩ := c.vis hv
  unfold mthTabR at h
  rcases ite_opt h with ⟨⟨rfl, q⟩, rfl⟩ | h
  ·     match es, q with
    | [a], _ => exact dx_methR F.slot_list_count F.type_list_count mt_lcount gCnt_ok (c.ix hN) v1 v2 v3 hs (by show 1 < 20; decide) hline ha
  · cases h
end PV
namespace PV
open PySem PySem.Spec PyProof.Rows L2

def lsE (p : Evs) : List Expr → Ev → Rs (List Rv)
  | [] => fNil
  | a :: r => fCons (p.e a) (lsE p r)
def lsS (io : Bool) (p : Evs) : List Expr → Ev → Rs (List Rv)
  | [] => fNil
  | a :: r => fCons (fun e => shr io (p.e a e)) (lsS io p r)
/-- the arguments of an own def: the first one may be changed -/
def argE (io b : Bool) (p : Evs) : List Expr → Ev → Rs (List Rv)
  | [] => fNil
  | a :: r => if b = true then fCons (p.e a) (lsS io p r) else lsS io p (a :: r)
def cD : Const → Option PyData
  | .none => some .none
  | .bool b => some (.bool b)
  | .int i => some (.int i)
  | .str x => some (.str x)
  | _ => none
def nameE (C : Cc) (x : Str) : Ev → Rs Rv := match ixOf x C.N with
  | some i => if visB C.sc x = true then fVar i else fBad
  | none => match C.cs x with
    | some d => if glB C.sc x = true then fC d else fBad
    | none => fBad
def andV (p : Evs) : List Expr → Ev → Rs Rv
  | [] => fBad
  | [a] => p.e a
  | a :: b :: r => fAndV (p.e a) (andV p (b :: r))
def orV (p : Evs) : List Expr → Ev → Rs Rv
  | [] => fBad
  | [a] => p.e a
  | a :: b :: r => fOrV (p.e a) (orV p (b :: r))
def andB (p : Evs) : List Expr → Ev → Rs Bool
  | [] => fBadB
  | [a] => p.t a
  | a :: b :: r => fAndB (p.t a) (andB p (b :: r))
def orB (p : Evs) : List Expr → Ev → Rs Bool
  | [] => fBadB
  | [a] => p.t a
  | a :: b :: r => fOrB (p.t a) (orB p (b :: r))
def partE (p : Evs) : Option Expr → Ev → Rs (Option Int)
  | none => fNoP
  | some a => fPart (p.e a)
def isSlice : Expr → Bool
  | .Slice .. => true
  | _ => false
def isSet : Expr → Bool
  | .Set .. => true
  | _ => false
def isRange : Expr → Option (List Expr)
  | .Call (.Name x _) args [] _ => if x = "range" then some args else none
  | _ => none
def isZip : Expr → Option (List Expr)
  | .Call (.Name x _) args [] _ => if x = "zip" then some args else none
  | _ => none
/-- the two that a zip goes through -/
def zipsE (C : Cc) : Expr → Option (Expr × Expr)
  | .Call (.Name y _) [a, b] [] _ => if y = "zip" ∧ (glB C.sc y && C.fr y && noStar [a, b]) = true then some (a, b) else none
  | _ => none
theorem zipsE_of {C : Cc} {a x y : Expr} (h : zipsE C a = some (x, y)) : ∃ p pos, a = .Call (.Name "zip" p) [x, y] [] pos ∧ (glB C.sc "zip" && C.fr "zip" && noStar [x, y]) = true := by
  unfold zipsE at h
  split at h
  · split at h
    · rename_i hc
      cases h
      obtain ⟨rfl, h2⟩ := hc
      exact ⟨_, _, rfl, h2⟩
    · cases h
  · cases h
def isBin : Expr → Bool
  | .BinOp .. => true
  | _ => false
def isTup : Expr → Bool
  | .Tuple .. => true
  | _ => false
/-- an iterable -/
def iterE (p : Evs) (C : Cc) (tg : Expr) : Expr → Ev → Rs (List PyData)
  | .Call (.Name x q) args [] pos =>
    if x = "range" then (if (glB C.sc x && C.fr x && noStar args) = true then (match args with
      | [a] => fRng1 (lsE p [a])
      | [a, b] => fRng2 (lsE p [a, b])
      | _ => fBadI) else fBadI)
    else if x = "zip" then (if (glB C.sc x && C.fr x && noStar args && isTup tg) = true then (match args with
      | [a, b] => fZip (if (isBin a || isBin b) = true then lsS C.io p [a, b] else lsE p [a, b])
      | _ => fBadI) else fBadI)
    else if x = "enumerate" then (if (glB C.sc x && C.fr x && noStar args && isTup tg) = true then (match args with
      | [a] => (match zipsE C a with
        | some (x, y) => fEnumZ (lsE p [x, y])
        | none => fEnum (lsS C.io p [a]))
      | _ => fBadI) else fBadI)
    else fSeq C.io (p.e (.Call (.Name x q) args [] pos))
  | a => if isSet a = true then fBadI else fSeq C.io (p.e a)
/-- targets -/
def tgsE (f : Expr → Option (List Nat × Tgt)) : List Expr → Option (List Nat × Tgts)
  | [] => some ([], tgNil)
  | a :: r => match f a, tgsE f r with
    | some (is, t), some (js, u) => some (is ++ js, tgCons t u)
    | _, _ => none
def tgE (C : Cc) : Nat → Expr → Option (List Nat × Tgt)
  | 0, _ => none
  | n + 1, .Name x _ => (match ixOf x C.N with
    | some i => if locB C x = true then some ([i], tgN C.io i) else none
    | none => none)
  | n + 1, .Tuple es _ _ => if noStar es = true then (match tgsE (tgE C n) es with
      | some (is, u) => some (is, tgTup es.length u)
      | none => none) else none
  | _, _ => none
/-- a call -/
def isiE (p : Evs) (C : Cc) : List Expr → Ev → Rs Rv
  | [a, .Name y _] => if (noStar [a] && glB C.sc y && C.fr y) = true then (match tyTab y with
    | some T => fIsi T (p.e a)
    | none => fBad) else fBad
  | _ => fBad
def lsK (p : Evs) : List Keyword → Ev → Rs (List Rv)
  | [] => fNil
  | ⟨_, a, _⟩ :: r => fCons (p.e a) (lsK p r)
def lsKS (io : Bool) (p : Evs) : List Keyword → Ev → Rs (List Rv)
  | [] => fNil
  | ⟨_, a, _⟩ :: r => fCons (fun e => shr io (p.e a e)) (lsKS io p r)
def kwNames : List Keyword → Option (List Str)
  | [] => some []
  | ⟨some x, _, _⟩ :: r => (kwNames r).map (x :: ·)
  | _ => none
/-- what another def makes, and a number -/
def drawE (C : Cc) : List Expr → Option (Fn × Int × Expr × List Expr × Bool)
  | [.Call (.Name y _) (a :: as) [] _, .Constant (.int i) _ _] => match C.fs y with
    | some (n, b, G) => if (glB C.sc y && noStar (a :: as)) = true ∧ (a :: as).length = n then some (G, i, a, as, b) else none
    | none => none
  | _ => none
theorem drawE_of {C : Cc} {args : List Expr} {G : Fn} {i : Int} {a : Expr} {as : List Expr} {b : Bool} (h : drawE C args = some (G, i, a, as, b)) :
    ∃ y p pos ck cp n, args = [.Call (.Name y p) (a :: as) [] pos, .Constant (.int i) ck cp] ∧ C.fs y = some (n, b, G) ∧ (glB C.sc y && noStar (a :: as)) = true ∧ (a :: as).length = n := by
  unfold drawE at h
  split at h
  · split at h
    · rename_i n b' G' hy
      split at h
      · rename_i hc
        cases h
        exact ⟨_, _, _, _, _, _, rfl, hy, hc.1, hc.2⟩
      · cases h
    · cases h
  · cases h
def callE (p : Evs) (C : Cc) (f : Expr) (args : List Expr) (kws : List Keyword) (pos : Pos) : Ev → Rs Rv := match kws with
  | [] => (match f with
    | .Name x _ => if (glB C.sc x && noStar args) = true then (match C.fs x with
      | some (n, b, F) => if args.length = n then (match (if b = true then drawE C args else none) with
        | some (G, i, a, as, b') => fFn2 F G i (argE C.io b' p (a :: as))
        | none => fFn F (argE C.io b p args)) else fBad
      | none => if C.fr x = true then (if x = "isinstance" then isiE p C args else match args with
        | [] => fBad
        | [.Call (.Name y _) [a] [] _] => if y = "range" then (if (glB C.sc y && C.fr y && noStar [a]) = true then (if x = "list" then fLRg (p.e a) else if x = "tuple" then fTRg (p.e a) else fBad) else fBad) else if x = "sorted" ∧ y = "set" then (if (glB C.sc y && C.fr y && noStar [a]) = true then fSSet (p.e a) else fBad) else if x = "len" ∧ y = "set" then (if (glB C.sc y && C.fr y && noStar [a]) = true then fLSet (p.e a) else fBad) else (match bltTab x with
          | some g => fCal g (lsE p args)
          | none => fBad)
        | a :: r => (match bltTab x with
          | some g => fCal g (lsE p (a :: r))
          | none => fBad)) else fBad) else fBad
    | .Attribute (.Name x _) name apos => (match ixOf x C.N, mthTab name args.length with
      | some i, some g => if (visB C.sc x && noStar args && (apos.endLine == pos.line)) = true then fMth i g (if name = "append" then lsS C.io p args else lsE p args) else fBad
      | some i, none => (match mthTabR name args.length with
        | some g => if (visB C.sc x && noStar args && (apos.endLine == pos.line)) = true then fMthR i g (lsE p args) else fBad
        | none => (match args with
          | [a, b] => if name = "get" ∧ (visB C.sc x && noStar [a, b] && (apos.endLine == pos.line)) = true then fGet i (p.e a) (p.e b) else fBad
          | _ => fBad))
      | _, _ => fBad)
    | _ => fBad)
  | kws => (match f, args, kwNames kws with
    | .Name x _, [], some kn => if glB C.sc x = true then (match C.fs x, C.ks x kn with
      | some (_, false, F), some pm => fFnK F pm (lsKS C.io p kws)
      | _, _ => fBad) else fBad
    | _, _, _ => fBad)
/-- a comprehension -/
instance {N : List Str} {sc scope : Scope} {own : List (Str × Nat)} : Decidable (BlkOk N sc scope own) :=
  decidable_of_iff (scope.kind = .function ∧ (∀ y ∈ scope.names, scope.names.lookup y.1 = some y.2) ∧ (∀ p ∈ own, N[p.2]? = some p.1) ∧ (∀ y ∈ scope.names, y.2 = .free → sc.names.lookup y.1 = some .cell ∨ sc.names.lookup y.1 = some .free) ∧
    ∀ y ∈ scope.names, y.2 = .local ∨ y.2 = .cell → y.1 ∈ own.map (·.1) ∨ y.1 ∉ N) ⟨fun ⟨a, b, c, d, e⟩ => ⟨a, b, c, d, e⟩, fun h => ⟨h.kind, h.uniq, h.ix, h.free, h.own⟩⟩
def ownOf (N : List Str) (scope : Scope) : List (Str × Nat) := scope.names.filterMap fun y => if y.2 = .local ∨ y.2 = .cell then (ixOf y.1 N).map fun i => (y.1, i) else none
def Cc.blk (C : Cc) (scope : Scope) : Cc := { C with sc := relS scope C.sc, fn := fun x => scope.names.lookup x == some .cell }
def ifsE (p : Evs) : List Expr → Ev → Rs Bool
  | [] => fun e => .ok true e
  | [c] => p.t c
  | _ => fBadB
def lcE (p : Cc → Evs) (C : Cc) (elt : Expr) (gens : List Comprehension) (scope : Scope) : Ev → Rs Rv := match gens with
  | [⟨tg, iter, ifs, k⟩] => if k = 0 ∧ BlkOk C.N C.sc scope (ownOf C.N scope) ∧ isSet iter = false then (match tgE (C.blk scope) 4 tg with
    | some (is, t) => if (is.all fun i => ((ownOf C.N scope).map (·.2)).contains i) = true then fLc C.io ((ownOf C.N scope).map (·.2)) (iterE (p C) C tg iter) t (ifsE (p (C.blk scope)) ifs) ((p (C.blk scope)).e elt) else fBad
    | none => fBad) else fBad
  | [⟨tg, iter, ifs, k⟩, ⟨tg1, iter1, ifs1, k1⟩] => if k = 0 ∧ k1 = 0 ∧ BlkOk C.N C.sc scope (ownOf C.N scope) ∧ isSet iter = false ∧ isSet iter1 = false then (match tgE (C.blk scope) 4 tg, tgE (C.blk scope) 4 tg1 with
    | some (is, t), some (is1, t1) => if (is.all fun i => ((ownOf C.N scope).map (·.2)).contains i) = true ∧ (is1.all fun i => ((ownOf C.N scope).map (·.2)).contains i) = true then fLc2 C.io ((ownOf C.N scope).map (·.2)) is1 (iterE (p C) C tg iter) t (ifsE (p (C.blk scope)) ifs) (iterE (p (C.blk scope)) (C.blk scope) tg1 iter1) t1 (ifsE (p (C.blk scope)) ifs1) ((p (C.blk scope)).e elt) else fBad
    | _, _ => fBad) else fBad
  | _ => fBad
def dcE (p : Cc → Evs) (C : Cc) (kx vx : Expr) (gens : List Comprehension) (scope : Scope) : Ev → Rs Rv := match gens with
  | [⟨tg, iter, ifs, k⟩] => if k = 0 ∧ BlkOk C.N C.sc scope (ownOf C.N scope) ∧ isSet iter = false then (match tgE (C.blk scope) 4 tg with
    | some (is, t) => if (is.all fun i => ((ownOf C.N scope).map (·.2)).contains i) = true then fDc C.io ((ownOf C.N scope).map (·.2)) (iterE (p C) C tg iter) t (ifsE (p (C.blk scope)) ifs) ((p (C.blk scope)).e kx) ((p (C.blk scope)).e vx) else fBad
    | none => fBad) else fBad
  | _ => fBad
def cmpE (p : Evs) (a : Expr) (ops : List CmpOp) (cs : List Expr) : Ev → Rs Rv := match ops, cs with
  | [op], [b] => (match cmpTab op with
    | some g => if behindInMarks op b = false then fBin g (p.e a) (p.e b) else fBad
    | none => fBad)
  | [op, op'], [b, c] => (match cmpTab op, cmpTab op' with
    | some g, some g' => if lastMarks [op, op'] [b, c] = false then fChain g g' (p.e a) (p.e b) (p.e c) else fBad
    | _, _ => fBad)
  | _, _ => fBad
def isNeg1 : Expr → Bool
  | .UnaryOp .USub (.Constant (.int i) _ _) _ => i == 1
  | _ => false
def slE (p : Evs) (a : Expr) (lo hi st : Option Expr) : Ev → Rs Rv := match st with
  | none => fSl (p.e a) (partE p lo) (partE p hi)
  | some s => if (isNeg1 s && lo.isNone && hi.isNone) = true then fRev (p.e a) else fBad
/-- a dict of the module at a text -/
def fGd (T : Str → Option PyData) (fb : Ev → Rs Rv) (e : Ev) : Rs Rv := (fb e).bind fun rb e1 => match res e1 rb with
  | some (.str z) => (match T z with
    | some d => .ok (.sh d) e1
    | none => .bad)
  | _ => .bad
def subE (p : Evs) (C : Cc) (a b : Expr) : Ev → Rs Rv := match a with
  | .Name x _ => (match C.ds x with
    | some T => if glB C.sc x = true then fGd T (p.e b) else fBad
    | none => fBin gIx (p.e a) (p.e b))
  | a => fBin gIx (p.e a) (p.e b)
def stepE (p : Cc → Evs) (C : Cc) : Expr → Ev → Rs Rv
  | .Constant c _ _ => (match cD c with
    | some d => fC d
    | none => fBad)
  | .Name x _ => nameE C x
  | .BinOp a op b _ => (match binTab op with
    | some g => fBin g ((p C).e a) ((p C).e b)
    | none => fBad)
  | .Compare a ops cs _ => cmpE (p C) a ops cs
  | .UnaryOp .Not a _ => fNotV ((p C).e a)
  | .UnaryOp .USub a _ => fNeg ((p C).e a)
  | .BoolOp .And vs _ => andV (p C) vs
  | .BoolOp .Or vs _ => orV (p C) vs
  | .IfExp c a b _ => fIf ((p C).t c) ((p C).e a) ((p C).e b)
  | .Tuple es _ _ => if noStar es = true then fTup (lsS C.io (p C) es) else fBad
  | .List es _ => if noStar es = true then fLst (lsS C.io (p C) es) else fBad
  | .Dict [] [] _ => fDct0
  | .Dict [some k] [v] _ => fDct1 C.io ((p C).e k) ((p C).e v)
  | .Subscript a (.Slice lo hi st _) _ => slE (p C) a lo hi st
  | .Subscript a b _ => subE (p C) C a b
  | .Call f args kws pos => callE (p C) C f args kws pos
  | .ListComp elt gens scope _ => lcE p C elt gens scope
  | .DictComp kx vx gens scope _ => dcE p C kx vx gens scope
  | _ => fBad
def stepT (p : Cc → Evs) (C : Cc) : Expr → Ev → Rs Bool
  | .UnaryOp .Not a _ => fNotB ((p C).t a)
  | .BoolOp .And vs _ => andB (p C) vs
  | .BoolOp .Or vs _ => orB (p C) vs
  | .Compare a ops cs _ => fTB (cmpE (p C) a ops cs)
  | a => if plainTest a = true then fTru ((p C).e a) else fBadB
def evs : Nat → Cc → Evs
  | 0, _ => ⟨fun _ => fBad, fun _ => fBadB⟩
  | n + 1, C => ⟨stepE (evs n) C, stepT (evs n) C⟩

/-! ### it is sound -/
section
variable {X : Cx} {B : Bs} {W : Wx} {a : Expr}
theorem dx_bad : DX X B W a fBad := ⟨fun _ _ _ _ _ _ ⟨_, _, _, h⟩ => h.elim⟩
theorem dt_bad : DT X B W a fBadB := ⟨fun _ _ _ _ _ _ ⟨_, _, _, h⟩ => h.elim⟩
theorem di_bad {tg : Expr} : DI X B W tg a fBadI := ⟨fun _ _ _ _ _ _ ⟨_, _, _, h⟩ => h.elim⟩
end
theorem dx_cg {X : Cx} {B : Bs} {W : Wx} {a : Expr} {d : PyData} {v : V} (hf : ∀ H : Hp, Dn X.K H v d) (h : PE X a (tC v)) : DX X B W a (fC d) := by
  refine pe_imp h fun σ H Q h => ?_
  obtain ⟨R, e, r, h⟩ := h
  exact h v R H (Same.refl _) r .refl (.refl _) (hf R)
structure EvOk (X : Cx) (W : Wx) (C : Cc) (p : Evs) : Prop where
  e : ∀ B : Bs, C.io = B.io.isSome → ∀ a, DX X B W a (p.e a)
  t : ∀ B : Bs, C.io = B.io.isSome → ∀ a, DT X B W a (p.t a)
def Sound (p : Cc → Evs) : Prop := ∀ C X W, CxIs X W C → EvOk X W C (p C)
section
variable {X : Cx} {B : Bs} {W : Wx} {C : Cc} {p : Evs}
theorem lsE_ok (c : EvOk X W C p) (hio : C.io = B.io.isSome) : ∀ {es : List Expr}, noStar es = true → DL X B W es (lsE p es)
  | [], _ => dl_nil
  | a :: r, h => dl_cons (c.e B hio a) (lsE_ok c hio (noStar_tail h)) (star_cons h)
theorem lsS_ok (c : EvOk X W C p) (hio : C.io = B.io.isSome) : ∀ {es : List Expr}, noStar es = true → DL X B W es (lsS C.io p es)
  | [], _ => dl_nil
  | a :: r, h => dl_cons (dx_share hio (c.e B hio a)) (lsS_ok c hio (noStar_tail h)) (star_cons h)
theorem argE_ok {b : Bool} (c : EvOk X W C p) (hio : C.io = B.io.isSome) : ∀ {es : List Expr}, noStar es = true → DL X B W es (argE C.io b p es)
  | [], _ => dl_nil
  | a :: r, h => by
    show DL X B W (a :: r) (if b = true then fCons (p.e a) (lsS C.io p r) else lsS C.io p (a :: r))
    split
    · exact dl_cons (c.e B hio a) (lsS_ok c hio (noStar_tail h)) (star_cons h)
    · exact lsS_ok c hio h
theorem bind_ok {α β : Type} {r : Rs α} {f : α → Ev → Rs β} {b : β} {e : Ev} (h : r.bind f = .ok b e) : ∃ a e1, r = .ok a e1 ∧ f a e1 = .ok b e := by
  cases r with
  | ok a e1 => exact ⟨a, e1, rfl, h⟩
  | ex c => cases h
  | bad => cases h
theorem lsE_len : ∀ {es : List Expr} {e e1 : Ev} {rvs : List Rv}, lsE p es e = .ok rvs e1 → rvs.length = es.length
  | [], e, e1, rvs, h => by
    simp only [lsE, fNil, Rs.ok.injEq] at h
    rw [← h.1]; rfl
  | a :: r, e, e1, rvs, h => by
    obtain ⟨ra, e2, _, h⟩ := bind_ok h
    obtain ⟨rs, e3, h1, h⟩ := bind_ok h
    cases h
    rw [List.length_cons, List.length_cons, lsE_len h1]
theorem lsS_len {io : Bool} : ∀ {es : List Expr} {e e1 : Ev} {rvs : List Rv}, lsS io p es e = .ok rvs e1 → rvs.length = es.length
  | [], e, e1, rvs, h => by
    simp only [lsS, fNil, Rs.ok.injEq] at h
    rw [← h.1]; rfl
  | a :: r, e, e1, rvs, h => by
    obtain ⟨ra, e2, _, h⟩ := bind_ok h
    obtain ⟨rs, e3, h1, h⟩ := bind_ok h
    cases h
    rw [List.length_cons, List.length_cons, lsS_len h1]
theorem argE_len {io b : Bool} : ∀ {es : List Expr} {e e1 : Ev} {rvs : List Rv}, argE io b p es e = .ok rvs e1 → rvs.length = es.length
  | [], e, e1, rvs, h => by
    simp only [argE, fNil, Rs.ok.injEq] at h
    rw [← h.1]; rfl
  | a :: r, e, e1, rvs, h => by
    have h : (if b = true then fCons (p.e a) (lsS io p r) else lsS io p (a :: r)) e = .ok rvs e1 := h
    split at h
    · obtain ⟨ra, e2, _, h⟩ := bind_ok h
      obtain ⟨rs, e3, h1, h⟩ := bind_ok h
      cases h
      rw [List.length_cons, List.length_cons, lsS_len h1]
    · exact lsS_len h
theorem lsKS_ok (c : EvOk X W C p) (hio : C.io = B.io.isSome) : ∀ {kws : List Keyword}, DK X B W kws (lsKS C.io p kws)
  | [] => dk_nil
  | ⟨_, a, _⟩ :: r => dk_cons (dx_share hio (c.e B hio a)) (lsKS_ok c hio)
theorem lsKS_len {io : Bool} : ∀ {kws : List Keyword} {e e1 : Ev} {rvs : List Rv}, lsKS io p kws e = .ok rvs e1 → rvs.length = kws.length
  | [], e, e1, rvs, h => by
    simp only [lsKS, fNil, Rs.ok.injEq] at h
    rw [← h.1]; rfl
  | ⟨_, a, _⟩ :: r, e, e1, rvs, h => by
    obtain ⟨ra, e2, _, h⟩ := bind_ok h
    obtain ⟨rs, e3, h1, h⟩ := bind_ok h
    cases h
    rw [List.length_cons, List.length_cons, lsKS_len h1]
theorem kwNames_len : ∀ {kws : List Keyword} {kn : List Str}, kwNames kws = some kn → kws.length = kn.length
  | [], kn, h => by simp only [kwNames, Option.some.injEq] at h; subst h; rfl
  | ⟨some x, _, _⟩ :: r, kn, h => by
    simp only [kwNames] at h
    obtain ⟨m, h1, rfl⟩ := Option.map_eq_some_iff.mp h
    rw [List.length_cons, List.length_cons, kwNames_len h1]
  | ⟨none, _, _⟩ :: r, kn, h => by simp [kwNames] at h
theorem kwNames_all {env : Env} {pos : Pos} : ∀ {kws : List Keyword} {kn : List Str}, kwNames kws = some kn → (backToKw pos (keywordEach kws env)).all (·.1.isSome) = true ∧ (backToKw pos (keywordEach kws env)).filterMap (·.1) = kn ∧ (backToKw pos (keywordEach kws env)).any (·.1.isNone) = false
  | [], kn, h => by simp only [kwNames, Option.some.injEq] at h; subst h; exact ⟨rfl, rfl, rfl⟩
  | ⟨some x, a, q⟩ :: r, kn, h => by
    simp only [kwNames] at h
    obtain ⟨m, h1, rfl⟩ := Option.map_eq_some_iff.mp h
    obtain ⟨g1, g2, g3⟩ := kwNames_all (env := env) (pos := pos) h1
    refine ⟨?_, ?_, ?_⟩
    · show (true && (backToKw pos (keywordEach r env)).all (·.1.isSome)) = true
      rw [g1]; rfl
    · show x :: (backToKw pos (keywordEach r env)).filterMap (·.1) = _
      rw [g2]
    · show (false || (backToKw pos (keywordEach r env)).any (·.1.isNone)) = false
      rw [g3]; rfl
  | ⟨none, _, _⟩ :: r, kn, h => by simp [kwNames] at h
theorem andV_ok (c : EvOk X W C p) (hio : C.io = B.io.isSome) {pos : Pos} : ∀ {vs : List Expr}, DX X B W (.BoolOp .And vs pos) (andV p vs)
  | [] => dx_bad
  | [a] => dx_one (c.e B hio a)
  | a :: b :: r => dx_and (c.e B hio a) (andV_ok c hio)
theorem orV_ok (c : EvOk X W C p) (hio : C.io = B.io.isSome) {pos : Pos} : ∀ {vs : List Expr}, DX X B W (.BoolOp .Or vs pos) (orV p vs)
  | [] => dx_bad
  | [a] => dx_one (c.e B hio a)
  | a :: b :: r => dx_or (c.e B hio a) (orV_ok c hio)
theorem dw_and_ok (c : EvOk X W C p) (hio : C.io = B.io.isSome) {pos : Pos} : ∀ {a : Expr} {vs : List Expr}, DW X B W (.BoolOp .And (a :: vs) pos) (andB p (a :: vs))
  | a, [] => dw_and1 (c.t B hio a)
  | a, b :: r => dw_and (c.t B hio a) (dw_and_ok c hio)
theorem dw_or_ok (c : EvOk X W C p) (hio : C.io = B.io.isSome) {pos : Pos} : ∀ {a : Expr} {vs : List Expr}, DW X B W (.BoolOp .Or (a :: vs) pos) (orB p (a :: vs))
  | a, [] => dw_or1 (c.t B hio a)
  | a, b :: r => dw_or (c.t B hio a) (dw_or_ok c hio)
theorem andB_ok (c : EvOk X W C p) (hio : C.io = B.io.isSome) {pos : Pos} : ∀ {vs : List Expr}, DT X B W (.BoolOp .And vs pos) (andB p vs)
  | [] => dt_bad
  | a :: r => dt_of_dw (dw_and_ok c hio)
theorem orB_ok (c : EvOk X W C p) (hio : C.io = B.io.isSome) {pos : Pos} : ∀ {vs : List Expr}, DT X B W (.BoolOp .Or vs pos) (orB p vs)
  | [] => dt_bad
  | a :: r => dt_of_dw (dw_or_ok c hio)
theorem partE_ok (c : EvOk X W C p) (hio : C.io = B.io.isSome) : ∀ {o : Option Expr}, DP X B W o (partE p o)
  | none => dp_none
  | some a => dp_some (c.e B hio a)
theorem notSet {iter : Expr} (h : ¬ isSet iter = true) : ∀ {env : Env} (x : Value), foldedSetIterable iter env x = pure x := by
  intro env x
  cases iter <;> first | rfl | exact absurd rfl h
theorem iterE_ok (cx : CxIs X W C) (c : EvOk X W C p) (hio : C.io = B.io.isSome) {tg a : Expr} : DI X B W tg a (iterE p C tg a) := by
  unfold iterE
  split
  · rename_i x q args pos
    split
    · rename_i hx
      subst hx
      split
      · rename_i hc
        simp only [Bool.and_eq_true] at hc
        obtain ⟨g1, g2, g3⟩ := cx.gl hc.1.1
        have hm := cx.fr _ hc.1.2
        split
        · exact di_range1 g1 hm (lsE_ok c hio hc.2) hc.2
        · exact di_range2 g1 hm (lsE_ok c hio hc.2) hc.2
        · exact di_bad
      · exact di_bad
    · split
      · rename_i hx
        subst hx
        split
        · rename_i hc
          simp only [Bool.and_eq_true] at hc
          obtain ⟨g1, g2, g3⟩ := cx.gl hc.1.1.1
          have hm := cx.fr _ hc.1.1.2
          have ht := hc.2
          split
          · split
            · cases tg <;> first | exact di_zip g1 hm (lsS_ok c hio hc.1.2) hc.1.2 | (simp [isTup] at ht)
            · cases tg <;> first | exact di_zip g1 hm (lsE_ok c hio hc.1.2) hc.1.2 | (simp [isTup] at ht)
          · exact di_bad
        · exact di_bad
      · split
        · rename_i hx
          subst hx
          split
          · rename_i hc
            simp only [Bool.and_eq_true] at hc
            obtain ⟨g1, g2, g3⟩ := cx.gl hc.1.1.1
            have hm := cx.fr _ hc.1.1.2
            have ht := hc.2
            split
            · split
              · rename_i hz
                obtain ⟨pz, posz, rfl, h2⟩ := zipsE_of hz
                simp only [Bool.and_eq_true] at h2
                obtain ⟨k1, k2, k3⟩ := cx.gl h2.1.1
                have hm2 := cx.fr _ h2.1.2
                cases tg <;> first | exact di_enumz g1 hm k1 hm2 (lsE_ok c hio h2.2) h2.2 | (simp [isTup] at ht)
              · cases tg <;> first | exact di_enum g1 hm (lsS_ok c hio hc.1.2) hc.1.2 | (simp [isTup] at ht)
            · exact di_bad
          · exact di_bad
        · exact di_seq hio (c.e B hio _)
  · split
    · exact di_bad
    · exact di_seq hio (c.e B hio _)
theorem tgs_of {f : Expr → Option (List Nat × Tgt)} (hf : ∀ tg is t, f tg = some (is, t) → DG X B tg is t ∧ TgOk is t) : ∀ {es : List Expr} {is : List Nat} {u : Tgts}, noStar es = true → tgsE f es = some (is, u) → DGs X B es is u ∧ TgsOk is u
  | [], is, u, _, h => by
    simp only [tgsE, Option.some.injEq, Prod.mk.injEq] at h
    obtain ⟨rfl, rfl⟩ := h
    exact ⟨dgs_nil, tgsOk_nil⟩
  | a :: r, is, u, hs, h => by
    simp only [tgsE] at h
    cases q1 : f a with
    | none => rw [q1] at h; cases h
    | some y =>
      cases q2 : tgsE f r with
      | none => rw [q1, q2] at h; cases h
      | some z =>
        rw [q1, q2] at h
        obtain ⟨is1, t⟩ := y
        obtain ⟨js, v⟩ := z
        simp only [Option.some.injEq, Prod.mk.injEq] at h
        obtain ⟨rfl, rfl⟩ := h
        obtain ⟨h1, h2⟩ := hf _ _ _ q1
        obtain ⟨h3, h4⟩ := tgs_of hf (noStar_tail hs) q2
        exact ⟨dgs_cons h1 h3 (by cases a <;> first | rfl | (simp [noStar] at hs)), tgsOk_cons h2 h4⟩
theorem assignEach_len {env : Env} : ∀ {es : List Expr}, (assignEach es env).length = es.length
  | [] => rfl
  | a :: r => by cases a <;> (show (assignEach r env).length + 1 = r.length + 1; rw [assignEach_len])
theorem assignEach_star {env : Env} : ∀ {es : List Expr}, noStar es = true → (assignEach es env).findIdx? (·.1) = none
  | [], _ => rfl
  | a :: r, h => by
    have h1 := assignEach_star (env := env) (noStar_tail h)
    have h2 : (assignEach (a :: r) env).findIdx? (·.1) = none := by
      rw [List.findIdx?_eq_none_iff] at h1 ⊢
      intro x hx
      cases a <;> first | exact (List.mem_cons.mp hx).elim (fun z => congrArg Prod.fst z) (fun z => h1 x z) | exact absurd h Bool.false_ne_true
    exact h2
theorem tgOk_tup {n : Nat} {is : List Nat} {u : Tgts} (h : TgsOk is u) : TgOk is (tgTup n u) := fun d e e' q => by
  unfold tgTup at q
  split at q
  · split at q
    · exact h _ _ _ q
    · cases q
  · cases q
theorem tgE_ok (cx : CxIs X W C) (hio : C.io = B.io.isSome) : ∀ {n : Nat} {tg : Expr} {is : List Nat} {t : Tgt}, tgE C n tg = some (is, t) → DG X B tg is t ∧ TgOk is t
  | 0, tg, is, t, h => by simp [tgE] at h
  | n + 1, .Name x q, is, t, h => by
    have h : (match ixOf x C.N with
      | some i => if locB C x = true then some ([i], tgN C.io i) else none
      | none => none) = some (is, t) := h
    split at h
    · rename_i i hi
      split at h
      · rename_i hl
        cases h
        exact ⟨dg_name hio cx.nd (cx.ix hi) (cx.loc hl).1 (cx.loc hl).2, tgOk_name⟩
      · cases h
    · cases h
  | n + 1, .Tuple es k q, is, t, h => by
    have h : (if noStar es = true then (match tgsE (tgE C n) es with
      | some (is, u) => some (is, tgTup es.length u)
      | none => none) else none) = some (is, t) := h
    split at h
    · rename_i hs
      cases hq : tgsE (tgE C n) es with
      | none => rw [hq] at h; cases h
      | some y =>
        rw [hq] at h
        obtain ⟨is1, u⟩ := y
        cases h
        obtain ⟨h1, h2⟩ := tgs_of (X := X) (B := B) (fun tg is t q => tgE_ok cx hio q) hs hq
        exact ⟨dg_tup cx.calm h1 assignEach_len (assignEach_star hs), tgOk_tup h2⟩
    · cases h
  | n + 1, .BoolOp .., is, t, h | n + 1, .NamedExpr .., is, t, h | n + 1, .BinOp .., is, t, h | n + 1, .UnaryOp .., is, t, h | n + 1, .Lambda .., is, t, h | n + 1, .IfExp .., is, t, h | n + 1, .Dict .., is, t, h | n + 1, .Set .., is, t, h
  | n + 1, .ListComp .., is, t, h | n + 1, .SetComp .., is, t, h | n + 1, .DictComp .., is, t, h | n + 1, .GeneratorExp .., is, t, h | n + 1, .Await .., is, t, h | n + 1, .Yield .., is, t, h | n + 1, .YieldFrom .., is, t, h | n + 1, .Compare .., is, t, h
  | n + 1, .Call .., is, t, h | n + 1, .FormattedValue .., is, t, h | n + 1, .JoinedStr .., is, t, h | n + 1, .Constant .., is, t, h | n + 1, .Attribute .., is, t, h | n + 1, .Subscript .., is, t, h | n + 1, .Starred .., is, t, h | n + 1, .List .., is, t, h
  | n + 1, .Slice .., is, t, h => by cases h
theorem blk_is (cx : CxIs X W C) (scope : Scope) (s : Shared) (H : Hp) (D : Addr) (cl : List (Str × Addr)) (fp : List Addr) : CxIs (Blk X scope s H D cl fp) W0 (C.blk scope) where
  N := cx.N
  nd := cx.nd
  sc := by show relS scope X.env.scope = relS scope C.sc; rw [cx.sc]
  fn := rfl
  calm := cx.calm
  hu := cx.hu
  gd := cx.gd
  sm := cx.sm
  fs := cx.fs
  ec := cx.ec
  cs := cx.cs
  ds := cx.ds
  fr := cx.fr
  tk := fun u s' ⟨a, B, sI, pins, σ, H, cls, d, e, I, nb, up, sky, na, os, ag, c, C, h1, h2, h3⟩ => h3.elim
end
end PV
namespace PV
open PySem PySem.Spec PyProof.Rows L2
section
variable {X : Cx} {B : Bs} {W : Wx} {C : Cc} {p : Evs} {pos q : Pos}
theorem cmpE_ok (cx : CxIs X W C) (c : EvOk X W C p) (hio : C.io = B.io.isSome) {a : Expr} {ops : List CmpOp} {cs : List Expr} : DX X B W (.Compare a ops cs pos) (cmpE p a ops cs) ∧ DT X B W (.Compare a ops cs pos) (fTB (cmpE p a ops cs)) := by
  have bad : ∀ {ops cs}, DX X B W (.Compare a ops cs pos) fBad ∧ DT X B W (.Compare a ops cs pos) (fTB fBad) := ⟨dx_bad, dt_bad⟩
  unfold cmpE
  split
  · split
    · rename_i op b _ g hg
      split
      · rename_i hm
        obtain ⟨r, h1, h2⟩ := cmpTab_ok (X := X) cx.hu hg
        exact ⟨dx_cmp h1 h2 hm (c.e B hio a) (c.e B hio b), dt_cmp h1 h2 hm (c.e B hio a) (c.e B hio b)⟩
      · exact bad
    · exact bad
  · split
    · rename_i op op' b cc _ _ g g' hg hg'
      split
      · rename_i hm
        obtain ⟨r, h1, h2⟩ := cmpTab_ok (X := X) cx.hu hg
        obtain ⟨r', h3, h4⟩ := cmpTab_ok (X := X) cx.hu hg'
        exact ⟨dx_chain h1 h3 h2 h4 hm (c.e B hio a) (c.e B hio b) (c.e B hio cc), dt_chain h1 h3 h2 h4 hm (c.e B hio a) (c.e B hio b) (c.e B hio cc)⟩
      · exact bad
    · exact bad
  · exact bad
theorem isiE_ok (cx : CxIs X W C) (c : EvOk X W C p) (hio : C.io = B.io.isSome) {args : List Expr} (hg : glB C.sc "isinstance" = true) (hm : C.fr "isinstance" = true) : DX X B W (.Call (.Name "isinstance" q) args [] pos) (isiE p C args) := by
  unfold isiE
  split
  · split
    · rename_i hc
      simp only [Bool.and_eq_true] at hc
      split
      · rename_i T hT
        obtain ⟨g1, g2, g3⟩ := cx.gl hc.1.2
        exact dx_isi (cx.gl hg).1 (cx.fr _ hm) g1 (cx.fr _ hc.2) (tyTab_ok hT) g3 g2 hc.1.1 (c.e B hio _)
      · exact dx_bad
    · exact dx_bad
  · exact dx_bad
theorem callE_ok (cx : CxIs X W C) (c : EvOk X W C p) (hio : C.io = B.io.isSome) {f : Expr} {args : List Expr} {kws : List Keyword} : DX X B W (.Call f args kws pos) (callE p C f args kws pos) := by
  unfold callE
  split
  · split
    · rename_i x q
      split
      · rename_i hc
        simp only [Bool.and_eq_true] at hc
        obtain ⟨g1, g2, g3⟩ := cx.gl hc.1
        split
        · rename_i n b F hF
          split
          · rename_i hl
            obtain ⟨_, fa, fd, k, ps, G, hps, hr, hm, hk, hb, _⟩ := cx.fs x n b F hF
            split
            · rename_i G2 i a as b' hd
              have hd : drawE C args = some (G2, i, a, as, b') := by
                split at hd
                · exact hd
                · cases hd
              obtain ⟨y, py, posy, ck, cp, n2, rfl, hy, hcy, hly⟩ := drawE_of hd
              simp only [Bool.and_eq_true] at hcy
              obtain ⟨k1, k2, k3⟩ := cx.gl hcy.1
              obtain ⟨_, fa2, fd2, kk2, ps2, PG2, hps2, hr2, hm2, hk2, hb2, _⟩ := cx.fs y n2 b' G2 hy
              exact dx_call2 G hr PG2 hr2 cx.gd g1 hm hk hb k1 hm2 hk2 hb2 cx.tk (argE_ok c hio hcy.2) (by rw [hps, ← hl]; rfl) (by rw [hly, hps2]) (fun e rvs e1 h => argE_len h) g2 k2 hcy.2 pe_int rfl
            subst hps
            cases args with
            | nil =>
              have : ps = [] := List.eq_nil_of_length_eq_zero hl.symm
              subst this
              exact dx_call0 G hr cx.gd g1 hm hk hb cx.tk g2
            | cons a r => exact dx_call G hr cx.gd g1 hm hk hb cx.tk (argE_ok c hio hc.2) hl (fun e rvs e1 h => argE_len h) g2 hc.2
          · exact dx_bad
        · split
          · rename_i hfr
            split
            · rename_i hx
              subst hx
              exact isiE_ok cx c hio hc.1 hfr
            · split
              · exact dx_bad
              · rename_i y q2 a pos2 _
                split
                · rename_i hy
                  subst hy
                  split
                  · rename_i hc2
                    simp only [Bool.and_eq_true] at hc2
                    obtain ⟨k1, k2, k3⟩ := cx.gl hc2.1.1
                    have km := cx.fr _ hc2.1.2
                    split
                    · rename_i hx
                      subst hx
                      exact dx_lrg cx.calm g1 (cx.fr _ hfr) k1 km (c.e B hio _) hc2.2
                    · split
                      · rename_i hx
                        subst hx
                        exact dx_trg cx.calm g1 (cx.fr _ hfr) k1 km (c.e B hio _) hc2.2
                      · exact dx_bad
                  · exact dx_bad
                · split
                  · rename_i hxy
                    obtain ⟨hx, hy⟩ := hxy
                    subst hx
                    subst hy
                    split
                    · rename_i hc2
                      simp only [Bool.and_eq_true] at hc2
                      obtain ⟨k1, k2, k3⟩ := cx.gl hc2.1.1
                      have km := cx.fr _ hc2.1.2
                      exact dx_sset cx.calm g1 (cx.fr _ hfr) k1 km hc2.2 (c.e B hio _)
                    · exact dx_bad
                  · split
                    · rename_i hxy
                      obtain ⟨hx, hy⟩ := hxy
                      subst hx
                      subst hy
                      split
                      · rename_i hc2
                        simp only [Bool.and_eq_true] at hc2
                        obtain ⟨k1, k2, k3⟩ := cx.gl hc2.1.1
                        have km := cx.fr _ hc2.1.2
                        exact dx_lset cx.calm g1 (cx.fr _ hfr) k1 km hc2.2 (c.e B hio _)
                      · exact dx_bad
                    · split
                      · rename_i g hg
                        exact dx_blt cx hg hc.1 hfr hc.2 (lsE_ok c hio hc.2)
                      · exact dx_bad
              · split
                · rename_i g hg
                  exact dx_blt cx hg hc.1 hfr hc.2 (lsE_ok c hio hc.2)
                · exact dx_bad
          · exact dx_bad
      · exact dx_bad
    · rename_i x q name apos
      split
      · rename_i i g hi hg
        split
        · rename_i hc
          simp only [Bool.and_eq_true] at hc
          refine dx_mth cx hg hi hc.1.1 hc.1.2 hc.2 ?_ fun z => by subst z; split <;> rfl
          split
          · exact lsS_ok c hio hc.1.2
          · exact lsE_ok c hio hc.1.2
        · exact dx_bad
      · rename_i i hi _
        split
        · rename_i g hg
          split
          · rename_i hc
            simp only [Bool.and_eq_true] at hc
            exact dx_mthR cx hg hi hc.1.1 hc.1.2 hc.2 (lsE_ok c hio hc.1.2)
          · exact dx_bad
        · split
          · split
            · rename_i hc
              obtain ⟨rfl, hc⟩ := hc
              simp only [Bool.and_eq_true] at hc
              obtain ⟨v1, v2, v3⟩ := cx.vis hc.1.1
              exact dx_get (by have := cx.hu; omega) (cx.ix hi) v1 v2 v3 hc.1.2 hc.2 (c.e B hio _) (c.e B hio _)
            · exact dx_bad
          · exact dx_bad
      · exact dx_bad
    · exact dx_bad
  · split
    · rename_i x q kn hkn
      split
      · rename_i hc
        obtain ⟨g1, g2, g3⟩ := cx.gl hc
        split
        · rename_i n F pm hF hpm
          obtain ⟨_, fa, fd, k, ps, G, hps, hr, hm, hk, hb, hkw⟩ := cx.fs x n false F hF
          obtain ⟨a1, a2, a3⟩ := kwNames_all (env := X.env) (pos := pos) hkn
          exact dx_callK G hr cx.gd g1 hm hk (hkw _ _ hpm) cx.tk (lsKS_ok c hio) (kwNames_len hkn) (fun e rvs e1 h => lsKS_len h) g2 a1 a2 (by rw [a3]; rfl)
        · exact dx_bad
      · exact dx_bad
    · exact dx_bad
theorem plainIx_of {b : Expr} (h : ∀ lo hi st p, b ≠ .Slice lo hi st p) : PlainIx b := fun o i => by
  cases b <;> first | rfl | exact absurd rfl (h _ _ _ _)
theorem slE_ok (c : EvOk X W C p) (hio : C.io = B.io.isSome) {a : Expr} {lo hi st : Option Expr} : DX X B W (.Subscript a (.Slice lo hi st q) pos) (slE p a lo hi st) := by
  unfold slE
  split
  · exact dx_slice (c.e B hio a) (partE_ok c hio) (partE_ok c hio)
  · rename_i s
    split
    · rename_i hc
      simp only [Bool.and_eq_true, Option.isNone_iff_eq_none] at hc
      obtain ⟨⟨h1, rfl⟩, rfl⟩ := hc
      unfold isNeg1 at h1
      split at h1
      · have := eq_of_beq h1
        subst this
        exact dx_rev (c.e B hio a)
      · cases h1
    · exact dx_bad
theorem lcIs_of {P : Cc → Evs} (hP : Sound P) (cx : CxIs X W C) (hio : C.io = B.io.isSome) {elt tg iter : Expr} {ifs : List Expr} {scope : Scope} {is : List Nat} {t : Tgt} (ok : BlkOk C.N C.sc scope (ownOf C.N scope)) (hns : isSet iter = false) (ht : tgE (C.blk scope) 4 tg = some (is, t))
    (his : (is.all fun i => ((ownOf C.N scope).map (·.2)).contains i) = true) : LcIs X B W C.io elt tg iter ifs scope (ownOf C.N scope) is (iterE (P C) C tg iter) t (ifsE (P (C.blk scope)) ifs) ((P (C.blk scope)).e elt) where
  htg := (tgE_ok (B := B) (blk_is cx scope X.s_0 X.H_0 0 [] []) hio ht).2
  hi := iterE_ok cx (hP C X W cx) hio
  ok := by rw [cx.N, cx.sc]; exact ok
  his := fun i hi => by
    rw [List.all_eq_true] at his
    exact List.contains_iff_mem.mp (his i hi)
  hg := fun B' hb s H D cl fp => (tgE_ok (B := B') (blk_is cx scope s H D cl fp) hb ht).1
  ht := fun B' hb s H D cl fp => by
    have k := hP _ _ _ (blk_is cx scope s H D cl fp)
    unfold ifsE
    split
    · exact dts_nil
    · exact dts_one (k.t B' hb _)
    · rename_i h1 h2
      match ifs, h1, h2 with
      | [], h1, _ => exact absurd rfl h1
      | [c], _, h2 => exact absurd rfl (h2 c)
      | a :: b :: r, _, _ => exact ⟨fun _ _ _ _ _ _ ⟨_, _, _, h⟩ => h.elim⟩
  he := fun B' hb s H D cl fp => (hP _ _ _ (blk_is cx scope s H D cl fp)).e B' hb elt
  hs := notSet (by rw [hns]; exact Bool.false_ne_true)
theorem lcIs2_of {P : Cc → Evs} (hP : Sound P) (cx : CxIs X W C) (hio : C.io = B.io.isSome) {tg1 iter1 : Expr} {ifs1 : List Expr} {scope : Scope} {is1 : List Nat} {t1 : Tgt} (hns : isSet iter1 = false) (ht : tgE (C.blk scope) 4 tg1 = some (is1, t1)) :
    LcIs2 X C.io tg1 iter1 ifs1 scope is1 is1 (iterE (P (C.blk scope)) (C.blk scope) tg1 iter1) t1 (ifsE (P (C.blk scope)) ifs1) where
  htg := (tgE_ok (B := B) (blk_is cx scope X.s_0 X.H_0 0 [] []) hio ht).2
  his := fun i hi => hi
  hi := fun B' hb s H D cl fp => iterE_ok (blk_is cx scope s H D cl fp) (hP _ _ _ (blk_is cx scope s H D cl fp)) hb
  hg := fun B' hb s H D cl fp => (tgE_ok (B := B') (blk_is cx scope s H D cl fp) hb ht).1
  ht := fun B' hb s H D cl fp => by
    have k := hP _ _ _ (blk_is cx scope s H D cl fp)
    unfold ifsE
    split
    · exact dts_nil
    · exact dts_one (k.t B' hb _)
    · rename_i h1 h2
      match ifs1, h1, h2 with
      | [], h1, _ => exact absurd rfl h1
      | [c], _, h2 => exact absurd rfl (h2 c)
      | a :: b :: r, _, _ => exact ⟨fun _ _ _ _ _ _ ⟨_, _, _, h⟩ => h.elim⟩
  hs := fun env => notSet (by rw [hns]; exact Bool.false_ne_true)
theorem dcE_ok {P : Cc → Evs} (hP : Sound P) (cx : CxIs X W C) (hio : C.io = B.io.isSome) {kx vx : Expr} {gens : List Comprehension} {scope : Scope} : DX X B W (.DictComp kx vx gens scope pos) (dcE P C kx vx gens scope) := by
  unfold dcE
  split
  · rename_i tg iter ifs k
    split
    · rename_i hc
      obtain ⟨rfl, ok, hns⟩ := hc
      split
      · rename_i is t ht
        split
        · rename_i his
          exact dx_dc hio cx.calm cx.nd (lcIs_of hP cx hio ok hns ht his) (lcIs_of hP cx hio ok hns ht his)
        · exact dx_bad
      · exact dx_bad
    · exact dx_bad
  · exact dx_bad
theorem lcE_ok {P : Cc → Evs} (hP : Sound P) (cx : CxIs X W C) (hio : C.io = B.io.isSome) {elt : Expr} {gens : List Comprehension} {scope : Scope} : DX X B W (.ListComp elt gens scope pos) (lcE P C elt gens scope) := by
  unfold lcE
  split
  · rename_i tg iter ifs k
    split
    · rename_i hc
      obtain ⟨rfl, ok, hns⟩ := hc
      split
      · rename_i is t ht
        split
        · rename_i his
          exact dx_lc hio cx.calm cx.nd (lcIs_of hP cx hio ok hns ht his)
        · exact dx_bad
      · exact dx_bad
    · exact dx_bad
  · rename_i tg iter ifs k tg1 iter1 ifs1 k1
    split
    · rename_i hc
      obtain ⟨rfl, rfl, ok, hns, hns1⟩ := hc
      split
      · rename_i is t is1 t1 ht ht1
        split
        · rename_i his
          exact dx_lc2 hio cx.calm cx.nd (lcIs_of hP cx hio ok hns ht his.1) (lcIs2_of (B := B) hP cx hio hns1 ht1) fun i hi => by
            have := his.2
            rw [List.all_eq_true] at this
            exact List.contains_iff_mem.mp (this i hi)
        · exact dx_bad
      · exact dx_bad
    · exact dx_bad
  · exact dx_bad
theorem nameE_ok (cx : CxIs X W C) {x : Str} : DX X B W (.Name x pos) (nameE C x) := by
  unfold nameE
  split
  · rename_i i hi
    split
    · rename_i hv
      obtain ⟨v1, v2, v3⟩ := cx.vis hv
      exact dx_var (cx.ix hi) v1 v2 v3
    · exact dx_bad
  · split
    · rename_i d hd
      split
      · rename_i hg
        obtain ⟨g1, g2, g3⟩ := cx.gl hg
        obtain ⟨v, u, h1, h2, h3⟩ := cx.cs x d hd
        exact dx_cg h3 (pe_glob g1 h1 h2 g2)
      · exact dx_bad
    · exact dx_bad
theorem ix_kd {X : Cx} {d : Addr} {es : Array DictEntry} {n : Nat} (D : KDict X.K X.w d es n) : IxR X (fun x y H Q => ∃ (z : Str) (u0 : Value) (v0 : V), x = .ref d ∧ y = .str z ∧ PySem.W.nsIn X.K d z = some (some u0) ∧ RelV v0 u0 ∧ Q v0 H) := by
  intro value slice pins s σ H x y v u Q I rx ry h hs
  have op := op_item_kd D pins s σ H x y v u Q I rx ry h
  obtain ⟨z, u0, v0, rfl, rfl, h1, h2, q⟩ := h
  cases rx
  exact tail_any ⟨_, I.kIn _ _ D.at_, rfl⟩ PySem.F.slot_dict_getitem.lookup op hs
theorem subE_ok (cx : CxIs X W C) (c : EvOk X W C p) (hio : C.io = B.io.isSome) {a b : Expr} (hp : PlainIx b) : DX X B W (.Subscript a b pos) (subE p C a b) := by
  unfold subE
  split
  · rename_i x q
    split
    · rename_i T hT
      split
      · rename_i hg
        obtain ⟨g1, g2, g3⟩ := cx.gl hg
        obtain ⟨d, es, n, KD, hm, hz⟩ := cx.ds x T hT
        refine pe_imp (pe_ix (ix_kd KD) (pe_glob (v := .ref d) g1 hm rfl g2) (c.e B hio b) hp) fun σ H Q h => ?_
        obtain ⟨R, e, r, h⟩ := h
        refine ⟨R, e, r, ?_⟩
        unfold fGd at h
        cases qb : p.e b e with
        | ex y => rw [qb] at h; exact h
        | bad => rw [qb] at h; exact h
        | ok rb e1 =>
          rw [qb] at h
          intro v R1 H1 s1 r1 f1 t1 hv
          simp only [Rs.bind] at h
          split at h
          · rename_i z hres
            split at h
            · rename_i dd hd
              obtain ⟨u0, v0, a1, a2, a3⟩ := hz z dd hd
              have e0 : v = .str z := dc_str (VR.dc r1 hv hres)
              exact ⟨z, u0, v0, rfl, e0, a1, a2, h v0 R1 H1 s1 r1 f1 t1 (a3 R1)⟩
            · exact h.elim
          · exact h.elim
      · exact dx_bad
    · exact dx_ix (by have := cx.hu; omega) hp (c.e B hio _) (c.e B hio _)
  · exact dx_ix (by have := cx.hu; omega) hp (c.e B hio _) (c.e B hio _)
theorem stepE_ok {P : Cc → Evs} (hP : Sound P) (cx : CxIs X W C) (hio : C.io = B.io.isSome) (a : Expr) : DX X B W a (stepE P C a) := by
  have c := hP C X W cx
  unfold stepE
  split
  · rename_i k j q
    cases k <;> simp only [cD] <;> first | exact dx_bad | skip
    · exact dx_c rfl pe_non
    · exact dx_c rfl pe_bl
    · exact dx_c rfl pe_int
    · exact dx_c rfl pe_str
  · exact nameE_ok cx
  · split
    · rename_i g hg
      obtain ⟨r, h1, h2⟩ := binTab_ok (X := X) hg
      exact dx_bin h1 h2 (c.e B hio _) (c.e B hio _)
    · exact dx_bad
  · exact (cmpE_ok cx c hio).1
  · exact dx_not (c.e B hio _)
  · exact dx_neg (c.e B hio _)
  · exact andV_ok c hio
  · exact orV_ok c hio
  · exact dx_if (c.t B hio _) (c.e B hio _) (c.e B hio _)
  · split
    · rename_i hs; exact dx_tup (lsS_ok c hio hs)
    · exact dx_bad
  · split
    · rename_i hs; exact dx_lst (lsS_ok c hio hs)
    · exact dx_bad
  · exact dx_dct0
  · exact dx_dct1 hio (fun B hb => c.e B hb _) (fun B hb => c.e B hb _)
  · exact slE_ok c hio
  · rename_i h
    exact subE_ok cx c hio (plainIx_of fun lo hi st p z => by subst z; exact h _ _ _ _ rfl)
  · exact callE_ok cx c hio
  · exact lcE_ok hP cx hio
  · exact dcE_ok hP cx hio
  · exact dx_bad
theorem stepT_ok {P : Cc → Evs} (hP : Sound P) (cx : CxIs X W C) (hio : C.io = B.io.isSome) (a : Expr) : DT X B W a (stepT P C a) := by
  have c := hP C X W cx
  unfold stepT
  split
  · exact dt_not (c.t B hio _)
  · exact andB_ok c hio
  · exact orB_ok c hio
  · exact (cmpE_ok cx c hio).2
  · split
    · rename_i hpt
      refine dt_truth (c.e B hio _) fun whole => ?_
      cases a <;> first | rfl | (simp [plainTest] at hpt)
    · exact dt_bad
theorem evs_ok : ∀ n, Sound (evs n)
  | 0 => fun C X W cx => ⟨fun B hio a => dx_bad, fun B hio a => dt_bad⟩
  | n + 1 => fun C X W cx => ⟨fun B hio a => stepE_ok (evs_ok n) cx hio a, fun B hio a => stepT_ok (evs_ok n) cx hio a⟩
end
end PV
namespace PV
open PySem PySem.Spec PyProof.Rows L2

def isLc : Expr → Bool
  | .ListComp .. => true
  | .SetComp .. => true
  | .DictComp .. => true
  | _ => false
def sBad : Ev → Fl := fun _ => .bad
def lcSwap (C : Cc) (x : Str) (px : Pos) (scope : Scope) (cpos : Pos) : Bool :=
  C.sc.names.lookup x == some .local && px.line == cpos.line && !(scope.names.any fun (n, k) => n == x && (k == .local || k == .cell))
def isStar : Expr → Bool
  | .Starred .. => true
  | _ => false
def nameAt (C : Cc) (line : Nat) : Expr → Option Str
  | .Name id pos => if C.sc.names.lookup id == some .local && pos.line == line then some id else none
  | _ => none
/-- which names are stored from the right -/
def swapN (C : Cc) (ts : List Expr) (v : Expr) : Option (Option (List Str)) := match v with
  | .Tuple vs _ _ =>
    if (!(ts.length == 2 || ts.length == 3) || vs.length != ts.length) = true then some none
    else if vs.any isStar = true then some none
    else
      let names := ts.filterMap (nameAt C ((ts.head?.map (·.pos.line)).getD 0))
      if (names.length != ts.length || names.eraseDups.length != names.length) = true then some none
      else if vs.all (foldedForSure 8) = true then some none
      else if vs.all (constantsAlone 8) = true then none
      else some (some names)
  | _ => some none
def parE (p : Evs) (C : Cc) (es vs : List Expr) : Ev → Fl := match es, vs with
  | [.Name x _, .Name y _], [a, b] => (match ixOf x C.N, ixOf y C.N with
    | some i, some j => if i ≠ j ∧ C.sc.names.lookup x = some .local ∧ C.sc.names.lookup y = some .local ∧ noStar [a, b] = true ∧ noStar [b] = true then fPars C.io [i, j] [p.e a, p.e b] else sBad
    | _, _ => sBad)
  | [.Name x _, .Name y _, .Name z _], [a, b, c] => (match ixOf x C.N, ixOf y C.N, ixOf z C.N with
    | some i, some j, some l => if i ≠ j ∧ i ≠ l ∧ j ≠ l ∧ C.sc.names.lookup x = some .local ∧ C.sc.names.lookup y = some .local ∧ C.sc.names.lookup z = some .local ∧ noStar [a, b, c] = true ∧ noStar [b, c] = true ∧ noStar [c] = true then fPars C.io [i, j, l] [p.e a, p.e b, p.e c] else sBad
    | _, _, _ => sBad)
  | _, _ => sBad
def namesOf : List Expr → List Str
  | .Name x _ :: r => x :: namesOf r
  | _ => []
def tupVs : Expr → List Expr
  | .Tuple vs _ _ => vs
  | _ => []
def asgE (P : Cc → Evs) (C : Cc) (tg v : Expr) : Ev → Fl := match tg with
  | .Name x px => (match ixOf x C.N with
    | some i => if locB C x = true then (match v with
      | .ListComp elt gens scope cpos => if lcSwap C x px scope cpos = true then fAsg C.io i (lcE P C elt gens scope) else fAsg C.io i (fun e => shrS C.io ((P C).e (.ListComp elt gens scope cpos) e))
      | .DictComp kx vx gens scope cpos => if lcSwap C x px scope cpos = true then fAsg C.io i (dcE P C kx vx gens scope) else sBad
      | v => if isLc v = true then sBad else fAsg C.io i (fun e => shrS C.io ((P C).e v e))) else sBad
    | none => sBad)
  | .Subscript (.Name x _) b _ => (match ixOf x C.N with
    | some i => if (visB C.sc x && !(isLc v) && !(isSlice b)) = true then fPut C.io i ((P C).e v) ((P C).e b) else sBad
    | none => sBad)
  | .Tuple es k pt => if (isLc v) = true then sBad else (match swapN C es v with
    | some none => (match tgE C 4 (.Tuple es k pt) with
      | some (is, t) => fAsgT t (fun e => shr C.io ((P C).e v e))
      | none => sBad)
    | some (some ns) => if ns = namesOf es then parE (P C) C es (tupVs v) else sBad
    | none => sBad)
  | _ => sBad
/-- x[k] += e, x[k] -= e -/
def augE (p : Evs) (C : Cc) (x : Str) (b : Expr) (op : Operator) (v : Expr) : Ev → Fl := match ixOf x C.N with
  | some i => if (visB C.sc x && !(isSlice b)) = true then (match op with
    | .Add => fAugI (fun a c => a + c) i (p.e b) (p.e v)
    | .Sub => fAugI (fun a c => a - c) i (p.e b) (p.e v)
    | _ => sBad) else sBad
  | none => sBad
def blkS (f : Stmt → Ev → Fl) : List Stmt → Ev → Fl
  | [] => .nx
  | [s] => f s
  | s :: t :: r => fun e => (f s e).seq (blkS f (t :: r))
def isDoc : Expr → Bool
  | .Constant (.str _) _ _ => true
  | _ => false
def sts (m : Nat) (C : Cc) : Nat → Stmt → Ev → Fl
  | 0, _ => sBad
  | n + 1, .Pass _ => .nx
  | n + 1, .Break _ => .bk
  | n + 1, .Continue _ => .ct
  | n + 1, .Expr a _ => if isDoc a = true then .nx else if isLc a = true then sBad else fExp ((evs m C).e a)
  | n + 1, .Return (some a) _ => fRet ((evs m C).e a)
  | n + 1, .Return none _ => fun e => .rt (.sh .none) e
  | n + 1, .If c xs ys _ => fIfS ((evs m C).t c) (blkS (sts m C n) xs) (blkS (sts m C n) ys)
  | n + 1, .Assign [tg] v _ => asgE (evs m) C tg v
  | n + 1, .AugAssign (.Subscript (.Name x _) b _) op v _ => augE (evs m C) C x b op v
  | n + 1, .For tg iter body [] _ => if isSet iter = true then sBad else (match tgE C 4 tg with
    | some (is, t) => fFor t (iterE (evs m C) C tg iter) (blkS (sts m C n) body)
    | none => sBad)
  | n + 1, .While c body [] _ => whileL ((evs m C).t c) (blkS (sts m C n) body) C.wn
  | n + 1, .Try body [.ExceptHandler (some (.Name x _)) none (_ :: _) _] [] [] _ => if (glB C.sc x && C.ec x) = true then fTry (blkS (sts m C n) body) else sBad
  | n + 1, _ => sBad

structure StIs (X : Cx) (W : Wx) (C : Cc) : Prop extends CxIs X W C where
  hp : PassesOwn (model X.prog X.w) X.A X.env X.xe
  bk : X.env.blockKind = .function
  hs : X.stack = X.env :: X.outer
  hf : X.env.frame = some X.env.locals
section
variable {X : Cx} {B : Bs} {W : Wx} {C : Cc} {P : Cc → Evs}
theorem ds_bad {st : Stmt} {f : Ev → Fl} (h : ∀ e, f e = .bad) : DS X B W st f := ⟨fun _ _ _ _ _ _ ⟨_, e, _, q⟩ => by
  have q : AfterS X.K B W _ (f e) _ := q
  rw [h e] at q; exact q.elim⟩
theorem swaps_false {v : Expr} {o : Option Expr} {l : Nat} {env : Env} (h : ¬ isLc v = true) : swapsWith v o l env = pure false := by
  cases v <;> first | rfl | exact absurd rfl h
theorem sole_eq {t v : Expr} {l : Nat} {env : Env} : swapsWithSole [t] v l env = swapsWith v (some t) l env := rfl
def nameAtE (env : Env) (line : Nat) : Expr → Option Str
  | .Name id pos => if env.kindOf id == some .local && pos.line == line then some id else none
  | _ => none
theorem swap_eq {ts vs : List Expr} {k k2 : Nat} {pt p2 : Pos} {env : Env} : swappedStores [.Tuple ts k pt] (.Tuple vs k2 p2) env =
    (if (!(ts.length == 2 || ts.length == 3) || vs.length != ts.length || env.blockKind != .function) = true then pure none
    else if vs.any isStar = true then pure none
    else if ((ts.filterMap (nameAtE env ((ts.head?.map (·.pos.line)).getD 0))).length != ts.length || (ts.filterMap (nameAtE env ((ts.head?.map (·.pos.line)).getD 0))).eraseDups.length != (ts.filterMap (nameAtE env ((ts.head?.map (·.pos.line)).getD 0))).length) = true then pure none
    else if vs.all (foldedForSure 8) = true then pure none
    else if vs.all (constantsAlone 8) = true then (do
      unsupported "assign.tuple-of-constant-expressions:order-of-the-stores"
      pure (some (ts.filterMap (nameAtE env ((ts.head?.map (·.pos.line)).getD 0)))))
    else pure (some (ts.filterMap (nameAtE env ((ts.head?.map (·.pos.line)).getD 0))))) := rfl
theorem swap_ok (cx : StIs X W C) {ts : List Expr} {v : Expr} {k : Nat} {pt : Pos} {r : Option (List Str)} (h : swapN C ts v = some r) : swappedStores [.Tuple ts k pt] v X.env = pure r := by
  unfold swapN at h
  split at h
  · rename_i vs k2 p2
    have hn : ∀ l, nameAtE X.env l = nameAt C l := fun l => by
      funext e
      have : ∀ id, X.env.kindOf id = C.sc.names.lookup id := fun id => by show X.env.scope.names.lookup id = _; rw [cx.sc]
      cases e <;> simp only [nameAt, nameAtE, this]
    rw [swap_eq, hn]
    have hb : (X.env.blockKind != ScopeKind.function) = false := by rw [cx.bk]; rfl
    rw [hb, Bool.or_false]
    split at h
    · rename_i q; cases h; rw [if_pos q]
    · rename_i q
      rw [if_neg q]
      split at h
      · rename_i q2; cases h; rw [if_pos q2]
      · rename_i q2
        rw [if_neg q2]
        simp only at h
        split at h
        · rename_i q3; cases h; rw [if_pos q3]
        · rename_i q3
          rw [if_neg q3]
          split at h
          · rename_i q4; cases h; rw [if_pos q4]
          · rename_i q4
            rw [if_neg q4]
            split at h
            · cases h
            · rename_i q5
              cases h
              rw [if_neg q5]
  · rename_i h1
    cases h
    cases v <;> first | rfl | exact absurd rfl (h1 _ _ _)
theorem parE_ok (cx : StIs X W C) (c : EvOk X W C (P C)) (hio : C.io = B.io.isSome) {es : List Expr} {v : Expr} {k : Nat} {pt pos : Pos} {ns : List Str} (h : swapN C es v = some (some ns)) (hns : ns = namesOf es) : DS X B W (.Assign [.Tuple es k pt] v pos) (parE (P C) C es (tupVs v)) := by
  have hw := swap_ok cx (k := k) (pt := pt) h
  have hv : ∃ vs k2 p2, v = .Tuple vs k2 p2 := by
    unfold swapN at h
    split at h
    · exact ⟨_, _, _, rfl⟩
    · cases h
  obtain ⟨vs, k2, p2, rfl⟩ := hv
  subst hns
  show DS X B W _ (parE (P C) C es vs)
  unfold parE
  split
  · rename_i x px y py a b
    split
    · rename_i i j hi hj
      split
      · rename_i hc
        obtain ⟨h1, h2, h3, h4, h5⟩ := hc
        exact ds_par2 hio cx.calm cx.nd (cx.ix hi) (cx.ix hj) h1 (by rw [cx.sc]; exact h2) (by rw [cx.sc]; exact h3) (.cons (fun B hb => c.e B hb a) h4 (.cons (fun B hb => c.e B hb b) h5 .nil)) hw
      · exact ds_bad fun _ => rfl
    · exact ds_bad fun _ => rfl
  · rename_i x px y py z pz a b d
    split
    · rename_i i j l hi hj hl
      split
      · rename_i hc
        obtain ⟨h1, h2, h3, h4, h5, h6, h7, h8, h9⟩ := hc
        exact ds_par3 hio cx.calm cx.nd (cx.ix hi) (cx.ix hj) (cx.ix hl) h1 h2 h3 (by rw [cx.sc]; exact h4) (by rw [cx.sc]; exact h5) (by rw [cx.sc]; exact h6) (.cons (fun B hb => c.e B hb a) h7 (.cons (fun B hb => c.e B hb b) h8 (.cons (fun B hb => c.e B hb d) h9 .nil))) hw
      · exact ds_bad fun _ => rfl
    · exact ds_bad fun _ => rfl
  · exact ds_bad fun _ => rfl
theorem fAsg_bad {io : Bool} {i : Nat} (e : Ev) : fAsg io i fBad e = .bad := rfl
theorem lcSwap_ok (cx : StIs X W C) {x : Str} {px cpos spos : Pos} {elt : Expr} {gens : List Comprehension} {scope : Scope} : swapsWith (.ListComp elt gens scope cpos) (some (.Name x px)) spos.line X.env = pure (lcSwap C x px scope cpos) := by
  have h1 : swapsWith (.ListComp elt gens scope cpos) (some (.Name x px)) spos.line X.env = pure (X.env.blockKind == .function && X.env.kindOf x == some .local && px.line == cpos.line && !(scope.names.any fun (n, k) => n == x && (k == .local || k == .cell))) := rfl
  rw [h1, cx.bk]
  have h2 : X.env.kindOf x = C.sc.names.lookup x := by show X.env.scope.names.lookup x = _; rw [cx.sc]
  rw [h2]
  rfl
theorem setLc_ok (hP : Sound P) (cx : StIs X W C) (hio : C.io = B.io.isSome) {i : Nat} {x : Str} {px cpos spos : Pos} {elt : Expr} {gens : List Comprehension} {scope : Scope} (hi : ixOf x C.N = some i) (hl : locB C x = true) (hsw : lcSwap C x px scope cpos = true) :
    DS X B W (.Assign [.Name x px] (.ListComp elt gens scope cpos) spos) (fAsg C.io i (lcE P C elt gens scope)) := by
  unfold lcE
  split
  · rename_i tg iter ifs k
    split
    · rename_i hc
      obtain ⟨rfl, ok, hns⟩ := hc
      split
      · rename_i is t ht
        split
        · rename_i his
          have hy : X.env.scope.names.lookup x = some .local := by
            rw [cx.sc]
            unfold lcSwap at hsw
            simp only [Bool.and_eq_true, beq_iff_eq] at hsw
            exact hsw.1.1
          exact ds_setLc hio cx.calm cx.nd (cx.ix hi) hy ((lcSwap_ok cx).trans (by rw [hsw])) (lcIs_of hP cx.toCxIs hio ok hns ht his)
        · exact ds_bad fun _ => rfl
      · exact ds_bad fun _ => rfl
    · exact ds_bad fun _ => rfl
  · rename_i tg iter ifs k tg1 iter1 ifs1 k1
    split
    · rename_i hc
      obtain ⟨rfl, rfl, ok, hns, hns1⟩ := hc
      split
      · rename_i is t is1 t1 ht ht1
        split
        · rename_i his
          have hy : X.env.scope.names.lookup x = some .local := by
            rw [cx.sc]
            unfold lcSwap at hsw
            simp only [Bool.and_eq_true, beq_iff_eq] at hsw
            exact hsw.1.1
          exact ds_setLc2 hio cx.calm cx.nd (cx.ix hi) hy ((lcSwap_ok cx).trans (by rw [hsw])) (lcIs_of hP cx.toCxIs hio ok hns ht his.1) (lcIs2_of (B := B) hP cx.toCxIs hio hns1 ht1) fun i hi => by
            have := his.2
            rw [List.all_eq_true] at this
            exact List.contains_iff_mem.mp (this i hi)
        · exact ds_bad fun _ => rfl
      · exact ds_bad fun _ => rfl
    · exact ds_bad fun _ => rfl
  · exact ds_bad fun _ => rfl
theorem dcSwap_ok (cx : StIs X W C) {x : Str} {px cpos spos : Pos} {kx vx : Expr} {gens : List Comprehension} {scope : Scope} : swapsWith (.DictComp kx vx gens scope cpos) (some (.Name x px)) spos.line X.env = pure (lcSwap C x px scope cpos) := by
  have h1 : swapsWith (.DictComp kx vx gens scope cpos) (some (.Name x px)) spos.line X.env = pure (X.env.blockKind == .function && X.env.kindOf x == some .local && px.line == cpos.line && !(scope.names.any fun (n, k) => n == x && (k == .local || k == .cell))) := rfl
  rw [h1, cx.bk]
  have h2 : X.env.kindOf x = C.sc.names.lookup x := by show X.env.scope.names.lookup x = _; rw [cx.sc]
  rw [h2]
  rfl
theorem setDc_ok (hP : Sound P) (cx : StIs X W C) (hio : C.io = B.io.isSome) {i : Nat} {x : Str} {px cpos spos : Pos} {kx vx : Expr} {gens : List Comprehension} {scope : Scope} (hi : ixOf x C.N = some i) (hl : locB C x = true) (hsw : lcSwap C x px scope cpos = true) :
    DS X B W (.Assign [.Name x px] (.DictComp kx vx gens scope cpos) spos) (fAsg C.io i (dcE P C kx vx gens scope)) := by
  unfold dcE
  split
  · rename_i tg iter ifs k
    split
    · rename_i hc
      obtain ⟨rfl, ok, hns⟩ := hc
      split
      · rename_i is t ht
        split
        · rename_i his
          have hy : X.env.scope.names.lookup x = some .local := by
            rw [cx.sc]
            unfold lcSwap at hsw
            simp only [Bool.and_eq_true, beq_iff_eq] at hsw
            exact hsw.1.1
          exact ds_setDc hio cx.calm cx.nd (cx.ix hi) hy ((dcSwap_ok cx).trans (by rw [hsw])) (lcIs_of hP cx.toCxIs hio ok hns ht his) (lcIs_of hP cx.toCxIs hio ok hns ht his)
        · exact ds_bad fun _ => rfl
      · exact ds_bad fun _ => rfl
    · exact ds_bad fun _ => rfl
  · exact ds_bad fun _ => rfl
theorem asgE_ok (hP : Sound P) (cx : StIs X W C) (hio : C.io = B.io.isSome) {tg v : Expr} {pos : Pos} : DS X B W (.Assign [tg] v pos) (asgE P C tg v) := by
  have c := hP C X W cx.toCxIs
  unfold asgE
  split
  · rename_i x px
    split
    · rename_i i hi
      split
      · rename_i hl
        split
        · rename_i elt gens scope cpos
          split
          · rename_i hsw
            exact setLc_ok hP cx hio hi hl hsw
          · rename_i hsw
            exact ds_set (pos'' := pos) hio cx.nd (cx.ix hi) (cx.loc hl).1 (c.e B hio _) ((lcSwap_ok cx).trans (by rw [(Bool.not_eq_true _).mp hsw])) (cx.loc hl).2
        · rename_i kx vx gens scope cpos
          split
          · rename_i hsw
            exact setDc_ok hP cx hio hi hl hsw
          · exact ds_bad fun _ => rfl
        · split
          · exact ds_bad fun _ => rfl
          · rename_i hlc
            exact ds_set (pos'' := pos) hio cx.nd (cx.ix hi) (cx.loc hl).1 (c.e B hio _) (swaps_false hlc) (cx.loc hl).2
      · exact ds_bad fun _ => rfl
    · exact ds_bad fun _ => rfl
  · rename_i x p b tpos
    split
    · rename_i i hi
      split
      · rename_i hc
        simp only [Bool.and_eq_true, Bool.not_eq_true'] at hc
        obtain ⟨v1, v2, v3⟩ := cx.vis hc.1.1
        have hb := hc.2
        refine ds_put hio (by have := cx.hu; omega) (cx.ix hi) v1 v2 v3 (c.e B hio _) (c.e B hio _) (fun v => ?_) (sole_eq.trans (swaps_false (by rw [hc.1.2]; exact Bool.false_ne_true))) (by rfl) (by rfl)
        cases b <;> first | rfl | exact absurd hb Bool.noConfusion
      · exact ds_bad fun _ => rfl
    · exact ds_bad fun _ => rfl
  · rename_i es k pt
    split
    · exact ds_bad fun _ => rfl
    · rename_i hlc
      split
      · rename_i hw
        split
        · rename_i is t ht
          exact ds_asgT hio (c.e B hio _) (tgE_ok cx.toCxIs hio ht).1 (sole_eq.trans (swaps_false hlc)) (swap_ok cx hw) (by rfl)
        · exact ds_bad fun _ => rfl
      · rename_i ns hw
        split
        · rename_i hns
          exact parE_ok cx c hio hw hns
        · exact ds_bad fun _ => rfl
      · exact ds_bad fun _ => rfl
  · exact ds_bad fun _ => rfl
theorem blkS_ok {f : Stmt → Ev → Fl} (h : ∀ s, DS X B W s (f s)) : ∀ {ss : List Stmt}, DSs X B W ss (blkS f ss)
  | [] => dss_nil
  | [s] => dss_one (h s)
  | s :: t :: r => dss_cons (h s) (blkS_ok h)
theorem StIs.tr (cx : StIs X W C) (pn : List (Addr × Obj)) (xe : Value → Shared → Prop) (hp : PassesOwn (model X.prog X.w) X.A X.env xe) : StIs (X.tr pn xe) W0 C where
  N := cx.N
  nd := cx.nd
  sc := cx.sc
  fn := cx.fn
  calm := cx.calm
  hu := cx.hu
  gd := cx.gd
  sm := cx.sm
  fs := cx.fs
  ec := cx.ec
  cs := cx.cs
  ds := cx.ds
  fr := cx.fr
  tk := takes_W0
  hp := hp
  bk := cx.bk
  hs := cx.hs
  hf := cx.hf
end
theorem augE_ok (hP : Sound P) (cx : StIs X W C) (hio : C.io = B.io.isSome) {x : Str} {b v : Expr} {op : Operator} {p tpos pos : Pos} : DS X B W (.AugAssign (.Subscript (.Name x p) b tpos) op v pos) (augE (P C) C x b op v) := by
  have c := hP C X W cx.toCxIs
  unfold augE
  split
  · rename_i i hi
    split
    · rename_i hc
      simp only [Bool.and_eq_true, Bool.not_eq_true'] at hc
      obtain ⟨v1, v2, v3⟩ := cx.vis hc.1
      have hb := hc.2
      have hst : ∀ ov iv new, augStore b ov iv new = (do holding [new, ov, iv] (setItem ov iv new); release [new, ov, iv] []; pure .next) := by
        intro ov iv new
        cases b <;> first | rfl | exact absurd hb Bool.noConfusion
      split
      · exact ds_augI ip_add (cx.ix hi) v1 v2 v3 (c.e B hio _) (c.e B hio _) hst
      · exact ds_augI ip_sub (cx.ix hi) v1 v2 v3 (c.e B hio _) (c.e B hio _) hst
      · exact ds_bad fun _ => rfl
    · exact ds_bad fun _ => rfl
  · exact ds_bad fun _ => rfl
theorem sts_ok (m : Nat) {B : Bs} {C : Cc} (hio : C.io = B.io.isSome) : ∀ (n : Nat) {X : Cx} {W : Wx} (cx : StIs X W C) (s : Stmt), DS X B W s (sts m C n s)
  | 0, _, _, _, s => ds_bad fun _ => rfl
  | n + 1, X, W, cx, s => by
    have c := evs_ok m C X W cx.toCxIs
    have ih := fun s => sts_ok m hio n cx s
    unfold sts
    split
    · rename_i q; cases q
    · exact ds_pass
    · exact ds_break
    · exact ds_cont
    · rename_i a q _
      split
      · rename_i hd
        unfold isDoc at hd
        split at hd
        · exact ds_doc
        · cases hd
      · split
        · exact ds_bad fun _ => rfl
        · rename_i hlc
          exact ds_expr (c.e B hio _) (swaps_false hlc)
    · exact ds_ret (c.e B hio _)
    · exact ds_retN
    · rename_i q
      cases q
      exact ds_if (c.t B hio _) (blkS_ok ih) (blkS_ok ih)
    · exact asgE_ok (evs_ok m) cx hio
    · rename_i q
      cases q
      exact augE_ok (evs_ok m) cx hio
    · rename_i q
      cases q
      split
      · exact ds_bad fun _ => rfl
      · rename_i hns
        split
        · rename_i is t ht
          exact ds_for cx.hp cx.calm (iterE_ok cx.toCxIs c hio) (tgE_ok cx.toCxIs hio ht).1 (blkS_ok ih) (notSet hns)
        · exact ds_bad fun _ => rfl
    · rename_i q
      cases q
      exact ds_while _ cx.hp (c.t B hio _) (blkS_ok ih)
    · rename_i q
      cases q
      split
      · rename_i hc
        simp only [Bool.and_eq_true] at hc
        obtain ⟨g1, g2, g3⟩ := cx.gl hc.1
        obtain ⟨cl, hcl⟩ := cx.ec _ hc.2
        exact ds_try0 cx.hs cx.hf ⟨g1, g2, .inl hcl⟩ cx.tk fun pn xe hp => blkS_ok fun s => sts_ok m hio n (cx.tr pn xe hp) s
      · exact ds_bad fun _ => rfl
    · exact ds_bad fun _ => rfl
end PV
namespace PV
open PySem PySem.Spec PyProof.Rows L2

/-! ### what the module holds -/
structure ModIs (P : Program) (w : World) (K : Fg) (mg : Mg) (base : Heap) (k : Nat) (C : Cc) : Prop where
  sm : ∃ o, base.get? sysModules = some o
  fs : ∀ x n b F, C.fs x = some (n, b, F) → F.io = b ∧ ∃ (f : Addr) (fd : FuncData) (ps : List Str), FnG P w K mg base k f fd ps (spFn K mg ps.length F) ∧ ps.length = n ∧ mg x = some (.ref f) ∧ PySem.W.keepIn K (.ref f) = true ∧ Binds K fd ps [] ∧ ∀ kn pm, C.ks x kn = some pm → KwB fd ps kn pm
  ec : ∀ x, C.ec x = true → ∃ c, mg x = some (.ref c)
  cs : ∀ x d, C.cs x = some d → ∃ v u, mg x = some u ∧ RelV v u ∧ ∀ H : Hp, Dn K H v d
  ds : ∀ x T, C.ds x = some T → ∃ a es n, KDict K w a es n ∧ mg x = some (.ref a) ∧ ∀ z d, T z = some d → ∃ u0 v0, PySem.W.nsIn K a z = some (some u0) ∧ RelV v0 u0 ∧ ∀ H : Hp, Dn K H v0 d
  fr : ∀ x, C.fr x = true → mg x = none
section
variable {P : Program} {w : World} {K : Fg} {mg : Mg} {base : Heap} {k : Nat} {C : Cc}
theorem body_is {N ps : List Str} {qual : Str} {scope : Scope} {f : Addr} {cdv : Value} {body : List Stmt} (S : FnScope N ps scope) (M : ModIs P w K mg base k C) (hN : C.N = N) (hsc : C.sc = scope) (hfn : C.fn = fun _ => true) (m n : Nat) :
    BodyIs P w K mg base N qual scope f cdv k C.io body (blkS (sts m C n) body) := by
  intro A outer s H E B W hio hr hg e0 tk
  have st : StIs (cxOf (L2.CX P w) P w K mg base N qual scope f cdv A outer s H E) W C := {
    N := hN.symm
    nd := S.nd
    sc := hsc.symm
    fn := hfn.symm
    calm := rfl
    hu := by have := hr.un; show (A.deeper _).units + 200 < cLine; omega
    gd := hg
    sm := M.sm
    fs := fun x n b F h => by
      obtain ⟨h0, fa, fd, ps, G, h1, h2, h3, h4⟩ := M.fs x n b F h
      exact ⟨h0, fa, fd, k, ps, G, h1, hr, h2, h3, h4⟩
    ec := M.ec
    cs := M.cs
    ds := M.ds
    fr := M.fr
    tk := tk
    hp := passes_of rfl
    hs := rfl
    hf := rfl
    bk := by
      show (if scope.kind.isAnnotationScope then ScopeKind.function else scope.kind) = .function
      rw [S.kind]; rfl }
  exact blkS_ok fun s => sts_ok m hio n st s
/-- a def of the text tells what its body's reading tells -/
theorem def_is {x qual : Str} {st : Stmt} {f : Addr} {fd : FuncData} {N ps : List Str} (Fu : Fun K x qual st f fd) (S : FnScope N ps (defScope st)) (M : ModIs P w K mg base k C) (hN : C.N = N) (hsc : C.sc = defScope st) (hfn : C.fn = fun _ => true) (m n : Nat) (F : Fn) (hFio : F.io = C.io)
    (hF : ∀ ds, ds.length = ps.length → F.den ds = .bad ∨ F.den ds = runB C.io N.length (blkS (sts m C n) (defBody st)) ds) : FnG P w K mg base (k + 1) f fd ps (spFn K mg ps.length F) := by
  obtain ⟨oc, od, kV, doc, pm, an, cdv, ct, osl, rfl, lk, hcd⟩ := Fu.ex
  have G := fn_G (F := ⟨C.io, runB C.io N.length (blkS (sts m C n) (defBody st))⟩) lk hcd S (body_is S M hN hsc hfn m n) fun _ _ => rfl
  refine G.imp fun vs H Q E ⟨R, ds, io, h1, h2, h3, h4⟩ => ⟨R, ds, io, h1, hFio ▸ h2, h3, ?_⟩
  have hl : ds.length = ps.length := by
    rw [← h3]
    cases hb : F.io with
    | false => rw [hb] at h2; exact h2.2.length.symm
    | true =>
      rw [hb] at h2
      obtain ⟨p, ws, xs, vs', ds', _, rfl, rfl, _, _, _, h⟩ := h2
      rw [List.length_cons, List.length_cons, h.length]
  rcases hF ds hl with z | z
  · rw [z] at h4; exact h4.elim
  · rw [z] at h4; exact h4
/-- at the level 0 nothing is told -/
theorem def_bad {f : Addr} {fd : FuncData} {ps : List Str} {io : Bool} : FnG P w K mg base k f fd ps (spFn K mg ps.length ⟨io, fun _ => .bad⟩) :=
  ⟨fun vs H Q E ⟨_, _, _, _, _, h, _⟩ => h, fun A outer s H args us vs Q E _ _ _ _ _ ⟨_, _, _, _, _, _, h⟩ => h.elim⟩
end

/-! ### the law's entry -/
/-- where the law is called: what its call's frame has, and what is wanted behind it -/
structure Entry (P : Program) (w : World) (K : Fg) (mg : Mg) (s : Shared) (a : Addr) (ns : List Int) (H : Hp) (base : Heap) : Prop where
  kin : K.In base
  ns_ : base.Ns mainGlobals mg
  env : Env0 P w K mg base callerA [] s H
  only : Only H
  script : SqL K H a (ns.map V.int)
  sm : ∃ o, base.get? sysModules = some o
  fin : ∀ u s', CE [] P w H s (fun v _ => v = .bl true) u s' → u = .bool true ∧ OldK s.heap s'.heap ∧ s'.os = s.os ∧ AllBare s'.gens
theorem entry_of {P : Program} {w : World} {K : Fg} {mg mb : Mg} {s : Shared} {a : Addr} {vs : List Value} {ns : List Int} {H : Hp} (KX : K.In s.heap) (G : s.heap.Ns mainGlobals mg) (Gb : s.heap.Ns builtinsNs mb) (hbb : ∀ x : Str, x ≠ "__name__" → mb x = bootBuiltins x) (lim : s.heap.NoLimit) (hg : s.gens = #[])
    (ha : s.heap.get? a = some { cls := .type "list", data := .seq vs.toArray }) (hO : Only H) (hS : SqL K H a (ns.map V.int)) (ok : HOk P w H s.heap) (one : ∀ b u, H b = some u → b = a ∧ K.lookup a = none) (hns : a ≠ sysModules) (hsz : ∃ o, s.heap.get? sysModules = some o) : Entry P w K mg s a ns H (hidT s.heap H) := by
  -- what is not the script's object is seen
  have see : ∀ b o, s.heap.get? b = some o → (b = a → ∃ c, K.lookup a = some c) → (hidT s.heap H).get? b = some o := fun b o e h => by
    refine hidT_get e ?_
    cases q : H b with
    | none => rfl
    | some u =>
      obtain ⟨h1, h2⟩ := one b u q
      obtain ⟨c, h3⟩ := h h1
      rw [h2] at h3; cases h3
  have kin : K.In (hidT s.heap H) := fun b o e => see b o (KX b o e) fun z => ⟨o, z ▸ e⟩
  have seeNs : ∀ b m, s.heap.Ns b m → (hidT s.heap H).Ns b m := fun b m ⟨o, es, ep, e, d, r⟩ => ⟨o, es, ep, see b o e (fun z => by
    subst z
    rw [ha] at e
    cases e
    exact Data.noConfusion (show Data.seq vs.toArray _ = Data.dict es ep from d)), d, r⟩
  obtain ⟨mc, l1, l2⟩ := lim
  refine ⟨kin, seeNs _ _ G, ⟨rfl, ⟨kin, seeNs _ _ G, ⟨mb, seeNs _ _ Gb, hbb⟩, mc, seeNs _ _ l1, l2⟩, fun b o e => of_hidT e, Nat.le_of_eq (hidT_size _ _), trivial, fun b hb => (nomatch hb), ok, .of_eq hg⟩, hO, hS, ?_, ?_⟩
  · obtain ⟨om, hm⟩ := hsz
    refine ⟨om, hidT_get hm ?_⟩
    cases q : H sysModules with
    | none => rfl
    | some u => exact absurd (one _ _ q).1.symm hns
  rintro u s' ⟨v, H', os, bare, un, ok', rv, rfl⟩
  refine ⟨rv, OldK.of_keep fun b o e => ?_, os, bare⟩
  rcases hO b with z | ⟨ob, xs, z⟩
  · exact un.keep b o e z (fun h => nomatch h) (fun h => nomatch h)
  · have e1 := (ok b _ z).1
    rw [e] at e1
    cases e1
    exact (ok' b _ (un.frzs b _ _ z)).1
/-- there is such an entry -/
theorem entry_ex {P : Program} {w : World} {K : Fg} {mg mb : Mg} {s : Shared} {a : Addr} {vs : List Value} {ns : List Int} (KX : K.In s.heap) (G : s.heap.Ns mainGlobals mg) (Gb : s.heap.Ns builtinsNs mb) (hbb : ∀ x : Str, x ≠ "__name__" → mb x = bootBuiltins x) (lim : s.heap.NoLimit) (hg : s.gens = #[])
    (ha : s.heap.get? a = some { cls := .type "list", data := .seq vs.toArray }) (hi : IntsAre vs ns) (hl : ns.length ≤ sizeLine) (hns : a ≠ sysModules) (hsz : ∃ o, s.heap.get? sysModules = some o) : ∃ H base, Entry P w K mg s a ns H base := by
  have rv := L2.vals_ints hi
  cases hk : K.lookup a with
  | some o =>
    have e := KX a o hk
    rw [ha] at e
    cases e
    exact ⟨_, _, entry_of (H := fun _ => none) KX G Gb hbb lim hg ha (fun _ => .inl rfl) (.inr ⟨_, vs.toArray, _, hk, rfl, rfl, rfl, by rw [List.size_toArray, hi.length]; exact hl, by simpa using rv⟩) (fun b u z => nomatch z) (fun b u z => nomatch z) hns hsz⟩
  | none =>
    let S : HO := .frz { cls := .type "list", data := .seq vs.toArray } (.lst (ns.map V.int))
    have at_ : ∀ b u, (if b = a then some S else none) = some u → b = a ∧ u = S := fun b u z => by
      by_cases hb : b = a
      · rw [if_pos hb] at z; exact ⟨hb, (Option.some.inj z).symm⟩
      · rw [if_neg hb] at z; cases z
    refine ⟨_, _, entry_of (H := fun b => if b = a then some S else none) KX G Gb hbb lim hg ha (fun b => ?_) (.inl (.inr ⟨_, if_pos rfl⟩)) (fun b u z => ?_) (fun b u z => ⟨(at_ b u z).1, hk⟩) hns hsz⟩
    · by_cases hb : b = a
      · exact .inr ⟨_, _, if_pos hb⟩
      · exact .inl (if_neg hb)
    · obtain ⟨rfl, rfl⟩ := at_ b u z
      exact ⟨ha, by rw [List.length_map]; exact hl, vs, _, rv, ha⟩
/-- the law's call, where no repr is under way -/
theorem callG {P : Program} {w : World} {K : Fg} {mg mb : Mg} {k : Nat} {fa a : Addr} {fd : FuncData} {x : Str} {F : Fn} {s : Shared} {vs : List Value} {ns : List Int} (KX : K.In s.heap) (G : s.heap.Ns mainGlobals mg) (Gb : s.heap.Ns builtinsNs mb) (hbb : ∀ x : Str, x ≠ "__name__" → mb x = bootBuiltins x) (lim : s.heap.NoLimit) (hg : s.gens = #[])
    (ha : s.heap.get? a = some { cls := .type "list", data := .seq vs.toArray }) (hi : IntsAre vs ns) (hl : ns.length ≤ sizeLine) (hns : a ≠ sysModules) (hsz : ∃ o, s.heap.get? sysModules = some o) (hr : Room k callerA) (hF : ∀ base : Heap, (∃ o, base.get? sysModules = some o) → K.In base → base.Ns mainGlobals mg → FnG P w K mg base k fa fd [x] (spFn K mg 1 F)) (hb : ∀ (s : Shared) (u : Value), BindsTo s fd ⟨[u], []⟩ [(x, u)])
    (hio : F.io = false) (hd : F.den [scrD ns] = .ret (.bool true) []) : codeAny (model P w) callerA (.call (.ref fa) ⟨[.ref a], []⟩) (fun r s' => r = .ok (.ret (.bool true)) ∧ OldK s.heap s'.heap ∧ s'.os = s.os ∧ AllBare s'.gens) s := by
  obtain ⟨H, base, en⟩ := entry_ex (P := P) (w := w) KX G Gb hbb lim hg ha hi hl hns hsz
  have sp : spFn K mg 1 F [.ref a] H (fun v _ => v = .bl true) (fun _ _ _ => False) := by
    refine ⟨H, [scrD ns], none, Same.refl _, ?_, rfl, ?_⟩
    · rw [hio]; exact ⟨rfl, .cons (.scr ns en.script) .nil⟩
    · rw [hd]
      intro v R' H' _ hv
      cases hv
      rfl
  refine codeAny_mono ((hF base en.sm en.kin en.ns_).run callerA [] s H ⟨[.ref a], []⟩ [.ref a] [.ref a] _ _ hr rfl en.env (hb s (.ref a)) (.cons rfl .nil) sp) fun r s' h => ?_
  cases r with
  | error e =>
    obtain ⟨_, _, _, _, _, _, _, _, _, _, _, _, z⟩ := (show L2.CX P w [] H s (fun _ _ _ => False) e s' from h)
    exact z.elim
  | ok fl =>
    cases fl with
    | ret u =>
      obtain ⟨rfl, h2⟩ := en.fin u s' h
      exact ⟨rfl, h2⟩
    | next => exact False.elim h
    | brk => exact False.elim h
    | cont => exact False.elim h
/-- the goal that the head leaves -/
theorem walk_G {l : PySem.W.OpenLaw} {n k : Nat} {q : Program} {loose : List Str} {XP : Mg → Heap → Prop} {YP : World → Heap → Prop} {d : DefRec} {K : Params → Fg} {F : Fn} {x : Str} (hn : l.most = some n) (hn2 : n ≤ sizeLine) (hdf : d.params.defaults = []) (hr : Room k callerA) (hq : importsNone q = true) (hY : ∀ (w : World) (h : Heap), YP w h → (K w.params).In h)
    (hF : ∀ (w : World) (mg : Mg) (fa : Addr) (h : Heap), (K w.params).In h → h.Ns mainGlobals mg → mg d.name = some (.ref fa) →
      ∃ fd : FuncData, (∀ (s : Shared) (u : Value), BindsTo s fd ⟨[u], []⟩ [(x, u)]) ∧ ∀ base : Heap, (∃ o, base.get? sysModules = some o) → (K w.params).In base → base.Ns mainGlobals mg → FnG l.prog w (K w.params) mg base k fa fd [x] (spFn (K w.params) mg 1 F))
    (hio : F.io = false) (hd : ∀ ns : List Int, ns.length ≤ n → (∀ z ∈ ns, Builtin.Int.intBits z ≤ 1048576) → F.den [scrD ns] = .ret (.bool true) []) : PySem.W.WalkO q loose XP YP l.row.toRowW d [] (fun f vs => PySem.call f vs) := by
  refine Att.attach_callB hn hdf fun w s₀ s₁ mg mb fa o pm cd doc a vs ns G Y ho hd' hcd hmg hobj hints hlen hbits hg => ?_
  obtain ⟨fd, hb, hF⟩ := hF w mg fa _ (hY w _ Y) G.T.g hmg
  obtain ⟨mm, ⟨om, es, ep, h1, h2, _⟩, _⟩ := (G.T.seer hq).mods
  have hns : a ≠ sysModules := fun z => by
    rw [← z, hobj] at h1
    cases h1
    exact Data.noConfusion (show Data.seq vs.toArray _ = Data.dict es ep from h2)
  exact callG (hY w _ Y) G.T.g G.T.b G.T.builtins G.T.nolimit hg hobj hints (Nat.le_trans hlen hn2) hns ⟨om, h1⟩ hr hF hb hio (hd ns hlen hbits)
end PV
namespace PV
open PySem PySem.Spec PyProof.Rows L2

def isTy (T : String) : PyData → Bool
  | .none => false
  | .bool _ => T == "int" || T == "bool"
  | .int _ => T == "int"
  | .str _ => T == "str"
  | .list _ => T == "list"
  | .tuple _ => T == "tuple"
  | .dict _ => T == "dict"
def tyOk (T : String) : Bool := T == "int" || T == "bool" || T == "str" || T == "list" || T == "tuple" || T == "dict"
theorem kit_all {T : String} (hT : tyOk T = true) (d : PyData) : kitB (tyD d) T = some (isTy T d) := by
  have h : T = "int" ∨ T = "bool" ∨ T = "str" ∨ T = "list" ∨ T = "tuple" ∨ T = "dict" := by
    simpa [tyOk, or_assoc] using hT
  rcases h with rfl | rfl | rfl | rfl | rfl | rfl <;> cases d <;> (simp only [tyD, isTy]; decide +kernel)
theorem isi_eq {T : String} {fa : Ev → Rs Rv} {e e1 : Ev} {d : PyData} (hT : tyOk T = true) (hd : plainD d = true) (h : stab (fa e) = .ok (.sh d) e1) : fIsi T fa e = .ok (.sh (.bool (isTy T d))) e1 := by
  unfold fIsi
  rw [h]
  simp only [Rs.bind, res, Option.bind_some, hd, if_true, kit_all hT]
end PV
namespace PV
open PySem PySem.Spec PyProof.Rows L2
theorem fIfS_eq (c : Ev → Rs Bool) (f g : Ev → Fl) (e : Ev) : fIfS c f g e = (match c e with
    | .ok b e1 => if b = true then f e1 else g e1
    | .ex c => .ex c
    | .bad => .bad) := by
  unfold fIfS
  cases c e with
  | ok b e1 => cases b <;> rfl
  | ex c => rfl
  | bad => rfl
def chK (r : Rs Rv) (k : Ev → Rs Rv) : Rs Rv := match r with
  | .ok (.sh (.bool b)) e => if b = true then k e else .ok (.sh (.bool false)) e
  | _ => .bad
theorem fChain_eq (g g' : PyData → PyData → Option Od) (fa fb fc : Ev → Rs Rv) (e : Ev) : fChain g g' fa fb fc e = (stab (fa e)).bind fun ra e1 => (stab (fb e1)).bind fun rb e2 => chK (bin2 g ra rb e2) fun e3 => (fc e3).bind fun rc e4 => bin2 g' rb rc e4 := by
  unfold fChain
  congr 1
  funext ra e1
  congr 1
  funext rb e2
  unfold chK
  split
  · rename_i q; rw [q]; rfl
  · rename_i q; rw [q]; rfl
  · rename_i h1 h2
    split
    · rename_i b e3 q
      cases b
      · exact absurd q (h2 e3)
      · exact absurd q (h1 e3)
    · rfl
theorem at_zero (s : Sl) (e : Ev) : Ev.at (s :: e) 0 = s := rfl
theorem at_succ (s : Sl) (e : Ev) (i : Nat) : Ev.at (s :: e) (i + 1) = Ev.at e i := rfl
theorem bind_ite {α β : Type} (c : Prop) [Decidable c] (a b : Rs α) (f : α → Ev → Rs β) : (if c then a else b).bind f = if c then a.bind f else b.bind f := by split <;> rfl
theorem then_ite (c : Prop) [Decidable c] (a b : Rs Rv) (f : Rv → Ev → Fl) : (if c then a else b).then f = if c then a.then f else b.then f := by split <;> rfl
theorem seq_ite (c : Prop) [Decidable c] (a b : Fl) (k : Ev → Fl) : (if c then a else b).seq k = if c then a.seq k else b.seq k := by split <;> rfl
theorem endF_ite (io : Bool) (c : Prop) [Decidable c] (a b : Fl) : endF io (if c then a else b) = if c then endF io a else endF io b := by split <;> rfl
theorem bool_ite (b : Bool) : (if b = true then true else false) = b := by cases b <;> rfl
end PV
namespace PV
open PySem PySem.Spec PyProof.Rows L2

/-- f is worth d at e; it is worth a new list; it has the data d, of whatever standing -/
def Px (f : Ev → Rs Rv) (e : Ev) (d : PyData) : Prop := f e = .ok (.sh d) e
def Fx (f : Ev → Rs Rv) (e : Ev) (ds : List PyData) : Prop := f e = .ok (.fl ds) e
def Vl (f : Ev → Rs Rv) (e : Ev) (d : PyData) : Prop := ∃ rv, f e = .ok rv e ∧ res e rv = some d
def Bt (f : Ev → Rs Bool) (e : Ev) (b : Bool) : Prop := f e = .ok b e
/-- arguments: by data; shared -/
def Lv (f : Ev → Rs (List Rv)) (e : Ev) (ds : List PyData) : Prop := ∃ rvs, f e = .ok rvs e ∧ resL e rvs = some ds
def Ls (f : Ev → Rs (List Rv)) (e : Ev) (ds : List PyData) : Prop := f e = .ok (ds.map .sh) e
section
variable {e : Ev} {fa fb fc : Ev → Rs Rv} {ga gb : Ev → Rs Bool} {fl : Ev → Rs (List Rv)} {a b c d : PyData} {ds : List PyData} {io : Bool}
theorem Px.vl (h : Px fa e d) : Vl fa e d := ⟨_, h, rfl⟩
theorem Fx.vl (h : Fx fa e ds) : Vl fa e (.list ds) := ⟨_, h, rfl⟩
theorem px_c : Px (fC d) e d := rfl
theorem px_var {i : Nat} (h : e.at i = .sh d) : Px (fVar i) e d := by unfold Px fVar; rw [h]
theorem vl_ow {i : Nat} (h : e.at i = .ow ds) : Vl (fVar i) e (.list ds) := ⟨.sl i, by unfold fVar; rw [h], by simp only [res]; rw [h]⟩
theorem stab_vl (h : Vl fa e d) : ∃ rv, stab (fa e) = .ok rv e ∧ res e rv = some d := by
  obtain ⟨rv, h1, h2⟩ := h
  rw [h1]
  cases rv with
  | sh x => exact ⟨_, rfl, h2⟩
  | fl x => exact ⟨_, rfl, h2⟩
  | fd x => exact ⟨_, rfl, h2⟩
  | sl x => exact ⟨_, rfl, h2⟩
theorem bin_vl {g : PyData → PyData → Option Od} {o : Od} (ha : Vl fa e a) (hb : Vl fb e b) (hg : g a b = some o) : fBin g fa fb e = .ok o.rv e := by
  obtain ⟨ra, h1, h2⟩ := stab_vl ha
  obtain ⟨rb, h3, h4⟩ := hb
  unfold fBin
  rw [h1]
  show (fb e).bind _ = _
  rw [h3]
  show bin2 g ra rb e = _
  unfold bin2
  rw [h2, h4]
  show outR (g a b) e = _
  rw [hg]; rfl
theorem px_bin {g : PyData → PyData → Option Od} (ha : Vl fa e a) (hb : Vl fb e b) (hg : g a b = some (.sh d)) : Px (fBin g fa fb) e d := bin_vl ha hb hg
theorem fx_bin {g : PyData → PyData → Option Od} (ha : Vl fa e a) (hb : Vl fb e b) (hg : g a b = some (.fl ds)) : Fx (fBin g fa fb) e ds := bin_vl ha hb hg
theorem px_chain {g g' : PyData → PyData → Option Od} {p q : Bool} (ha : Vl fa e a) (hb : Vl fb e b) (h1 : g a b = some (.sh (.bool p))) (h2 : p = true → Vl fc e c ∧ g' b c = some (.sh (.bool q))) : Px (fChain g g' fa fb fc) e (.bool (p && q)) := by
  obtain ⟨ra, a1, a2⟩ := stab_vl ha
  obtain ⟨rb, b1, b2⟩ := stab_vl hb
  unfold Px
  rw [fChain_eq, a1]
  show (stab (fb e)).bind _ = _
  rw [b1]
  show chK (bin2 g ra rb e) _ = _
  have h3 : bin2 g ra rb e = .ok (.sh (.bool p)) e := by unfold bin2; rw [a2, b2]; show outR (g a b) e = _; rw [h1]; rfl
  rw [h3]
  cases p with
  | false => rfl
  | true =>
    obtain ⟨⟨rc, c1, c2⟩, h4⟩ := h2 rfl
    show (fc e).bind _ = _
    rw [c1]
    show bin2 g' rb rc e = _
    unfold bin2
    rw [b2, c2]
    show outR (g' b c) e = _
    rw [h4]; rfl
theorem bt_tb {p : Bool} (h : Px fa e (.bool p)) : Bt (fTB fa) e p := by unfold Bt fTB; rw [h]; rfl
theorem bt_tru {p : Bool} (h : Vl fa e d) (ht : truD d = some p) : Bt (fTru fa) e p := by
  obtain ⟨rv, h1, h2⟩ := h
  unfold Bt fTru
  rw [h1]
  simp only [Rs.bind, h2, Option.bind_some, ht]
theorem bt_not {p : Bool} (h : Bt ga e p) : Bt (fNotB ga) e (!p) := by unfold Bt fNotB; rw [h]; rfl
theorem bt_and {p q : Bool} (h1 : Bt ga e p) (h2 : p = true → Bt gb e q) : Bt (fAndB ga gb) e (p && q) := by
  unfold Bt fAndB; rw [h1]
  cases p with
  | false => rfl
  | true => exact h2 rfl
theorem bt_or {p q : Bool} (h1 : Bt ga e p) (h2 : p = false → Bt gb e q) : Bt (fOrB ga gb) e (p || q) := by
  unfold Bt fOrB; rw [h1]
  cases p with
  | true => rfl
  | false => exact h2 rfl
theorem px_not {p : Bool} (h : Px fa e (.bool p)) : Px (fNotV fa) e (.bool !p) := by unfold Px fNotV; rw [bt_tb h]; rfl
theorem px_and {p q : Bool} (h1 : Px fa e (.bool p)) (h2 : p = true → Px fb e (.bool q)) : Px (fAndV fa fb) e (.bool (p && q)) := by
  unfold Px fAndV; rw [bt_tb h1]
  cases p with
  | false => rfl
  | true => exact h2 rfl
theorem px_or {p q : Bool} (h1 : Px fa e (.bool p)) (h2 : p = false → Px fb e (.bool q)) : Px (fOrV fa fb) e (.bool (p || q)) := by
  unfold Px fOrV; rw [bt_tb h1]
  cases p with
  | true => rfl
  | false => exact h2 rfl
theorem if_t (h : Bt ga e true) : fIf ga fa fb e = fa e := by unfold fIf; rw [h]; rfl
theorem if_f (h : Bt ga e false) : fIf ga fa fb e = fb e := by unfold fIf; rw [h]; rfl
theorem px_if {p : Bool} (h : Bt ga e p) (h1 : p = true → Px fa e a) (h2 : p = false → Px fb e b) : Px (fIf ga fa fb) e (if p = true then a else b) := by
  cases p with
  | true => exact (if_t h).trans (h1 rfl)
  | false => exact (if_f h).trans (h2 rfl)
theorem px_neg {i : Int} (h : Px fa e (.int i)) : Px (fNeg fa) e (.int (-i)) := by unfold Px fNeg; rw [h]; rfl
theorem ls_nil : Ls fNil e [] := rfl
theorem lv_nil : Lv fNil e [] := ⟨[], rfl, rfl⟩
theorem ls_px (h : Px fa e d) (hr : Ls fl e ds) : Ls (fCons (fun e => shr io (fa e)) fl) e (d :: ds) := by
  unfold Ls fCons
  show (stab (shr io (fa e))).bind _ = _
  rw [h]
  show (fl e).bind _ = _
  rw [hr]; rfl
theorem ls_fx {xs : List PyData} (h : Fx fa e xs) (hr : Ls fl e ds) : Ls (fCons (fun e => shr io (fa e)) fl) e (.list xs :: ds) := by
  unfold Ls fCons
  show (stab (shr io (fa e))).bind _ = _
  rw [h]
  show (fl e).bind _ = _
  rw [hr]; rfl
theorem lv_cons (h : Vl fa e d) (hr : Lv fl e ds) : Lv (fCons fa fl) e (d :: ds) := by
  obtain ⟨rv, h1, h2⟩ := stab_vl h
  obtain ⟨rvs, h3, h4⟩ := hr
  refine ⟨rv :: rvs, ?_, by simp only [resL, h2, h4]⟩
  unfold fCons
  rw [h1]
  show (fl e).bind _ = _
  rw [h3]; rfl
theorem shD_map : ∀ ds : List PyData, shD (ds.map Rv.sh) = some ds
  | [] => rfl
  | d :: r => by simp only [List.map_cons, shD, shD_map r, Option.map_some]
theorem px_tup (h : Ls fl e ds) (hz : ds.length ≤ line) : Px (fTup fl) e (.tuple ds) := by
  unfold Px fTup
  rw [h]
  simp only [Rs.bind, shD_map, if_pos hz]
theorem fx_lst (h : Ls fl e ds) (hz : ds.length ≤ line) : Fx (fLst fl) e ds := by
  unfold Fx fLst
  rw [h]
  simp only [Rs.bind, shD_map, if_pos hz]
theorem cal_lv {g : List PyData → Option Od} {o : Od} (h : Lv fl e ds) (hg : g ds = some o) : fCal g fl e = .ok o.rv e := by
  obtain ⟨rvs, h1, h2⟩ := h
  unfold fCal
  rw [h1]
  simp only [Rs.bind, h2, Option.bind_some, hg]
theorem px_cal {g : List PyData → Option Od} (h : Lv fl e ds) (hg : g ds = some (.sh d)) : Px (fCal g fl) e d := cal_lv h hg
theorem fx_cal {g : List PyData → Option Od} {xs : List PyData} (h : Lv fl e ds) (hg : g ds = some (.fl xs)) : Fx (fCal g fl) e xs := cal_lv h hg
theorem px_isi {T : String} (hT : tyOk T = true) (hd : plainD d = true) (h : Px fa e d) : Px (fIsi T fa) e (.bool (isTy T d)) := isi_eq hT hd (by rw [h]; rfl)
theorem fn_sh {F : Fn} (hio : F.io = false) (h : Ls fl e ds) : fFn F fl e = outF (F.den ds) e := by
  unfold fFn
  rw [h]
  show kFn F (ds.map .sh) e = _
  unfold kFn
  rw [hio]
  simp only [shD_map]
theorem px_fn {F : Fn} {xs : List PyData} (hio : F.io = false) (h : Ls fl e ds) (hd : F.den ds = .ret d xs) : Px (fFn F fl) e d := by
  unfold Px; rw [fn_sh hio h, hd]; rfl
theorem fx_fn {F : Fn} {xs ys : List PyData} (hio : F.io = false) (h : Ls fl e ds) (hd : F.den ds = .fresh xs ys) : Fx (fFn F fl) e xs := by
  unfold Fx; rw [fn_sh hio h, hd]; rfl
/-- a call that changes the list of the name i -/
theorem fn_io {F : Fn} {i : Nat} {ps xs : List PyData} (hio : F.io = true) (hp : e.at i = .ow ps) (h : Ls fl e ds) (hd : F.den (.list ps :: ds) = .ret d xs) : fFn F (fCons (fVar i) fl) e = .ok (.sh d) (e.set i (.ow xs)) := by
  have hv : fVar i e = .ok (.sl i) e := by unfold fVar; rw [hp]
  unfold fFn fCons
  rw [hv]
  show (((fl e).bind fun rs e2 => .ok (.sl i :: rs) e2)).bind (kFn F) = _
  rw [h]
  show kFn F (.sl i :: ds.map .sh) e = _
  unfold kFn
  rw [hio]
  simp only [hp, shD_map, hd, outIo]
def Pt (f : Ev → Rs (Option Int)) (e : Ev) (o : Option Int) : Prop := f e = .ok o e
theorem pt_no : Pt fNoP e none := rfl
theorem pt_some {i : Int} (h : Vl fa e (.int i)) : Pt (fPart fa) e (some i) := by
  obtain ⟨rv, h1, h2⟩ := h
  unfold Pt fPart
  rw [h1]
  simp only [Rs.bind, h2]
theorem px_sl {lo hi : Option Int} {fl fh : Ev → Rs (Option Int)} (ha : Vl fa e a) (hl : Pt fl e lo) (hh : Pt fh e hi) (hg : gSl a lo hi = some (.sh d)) : Px (fSl fa fl fh) e d := by
  obtain ⟨ra, h1, h2⟩ := stab_vl ha
  unfold Px fSl
  rw [h1]
  simp only [Rs.bind]
  rw [hl]
  simp only [Rs.bind]
  rw [hh]
  simp only [Rs.bind, h2, Option.bind_some, hg, Od.rv]
theorem px_rev (h : Vl fa e (.tuple ds)) : Px (fRev fa) e (.tuple ds.reverse) := by
  obtain ⟨rv, h1, h2⟩ := h
  unfold Px fRev
  rw [h1]
  simp only [Rs.bind, h2]
end
end PV
namespace PV
open PySem PySem.Spec PyProof.Rows L2
def fSq (f g : Ev → Fl) : Ev → Fl := fun e => (f e).seq g
section
variable {e e1 e2 : Ev} {fa fb fc : Ev → Rs Rv} {ga gb : Ev → Rs Bool} {fl : Ev → Rs (List Rv)} {a b c d : PyData} {ds : List PyData} {io : Bool} {f g : Ev → Fl} {rv : Rv}
theorem sq_nx (h : f e = .nx e1) : (fSq f <| g) e = g e1 := by unfold fSq; rw [h]; rfl
theorem sq_rt (h : f e = .rt rv e1) : (fSq f <| g) e = .rt rv e1 := by unfold fSq; rw [h]; rfl
theorem sq_bk (h : f e = .bk e1) : (fSq f <| g) e = .bk e1 := by unfold fSq; rw [h]; rfl
theorem sq_ct (h : f e = .ct e1) : (fSq f <| g) e = .ct e1 := by unfold fSq; rw [h]; rfl
theorem ifs_t (h : Bt ga e true) : fIfS ga f g e = f e := by unfold fIfS; rw [h]
theorem ifs_f (h : Bt ga e false) : fIfS ga f g e = g e := by unfold fIfS; rw [h]
theorem ret_px (h : Px fa e d) : fRet fa e = .rt (.sh d) e := by unfold fRet; rw [h]; rfl
theorem ret_fx (h : Fx fa e ds) : fRet fa e = .rt (.fl ds) e := by unfold fRet; rw [h]; rfl
theorem ret_ok (h : fa e = .ok rv e1) : fRet fa e = .rt rv e1 := by unfold fRet; rw [h]; rfl
theorem put_ok {i : Nat} {s : Sl} (h0 : (io && i == 0) = false) (h1 : i < e.length) {rv : Rv} (hs : (match rv with | .sh d => some (Sl.sh d) | .fl ds => some (.ow ds) | .fd es => some (.od es) | .sl _ => none) = some s) : putN io i rv e = some (e.set i s) := by
  unfold putN
  rw [if_neg (fun z => z.elim (fun z => by rw [h0] at z; exact Bool.noConfusion z) fun z => z h1)]
  cases rv with
  | sh d => cases hs; rfl
  | fl d => cases hs; rfl
  | fd d => cases hs; rfl
  | sl i => cases hs
theorem asg_sh {i : Nat} (h : fa e = .ok (.sh d) e1) (h0 : (io && i == 0) = false) (h1 : i < e1.length) : fAsg io i (fun e => shrS io (fa e)) e = .nx (e1.set i (.sh d)) := by
  show (shrS io (fa e)).then _ = _
  rw [h]
  show (match putN io i (.sh d) e1 with | some e2 => Fl.nx e2 | none => .bad) = _
  rw [put_ok h0 h1 rfl]
theorem asg_fl {i : Nat} (h : fa e = .ok (.fl ds) e1) (h0 : (io && i == 0) = false) (h1 : i < e1.length) : fAsg io i (fun e => shrS io (fa e)) e = .nx (e1.set i (.ow ds)) := by
  show (shrS io (fa e)).then _ = _
  rw [h]
  show (match putN io i (.fl ds) e1 with | some e2 => Fl.nx e2 | none => .bad) = _
  rw [put_ok h0 h1 rfl]
theorem asgC_fl {i : Nat} (h : fa e = .ok (.fl ds) e1) (h0 : (io && i == 0) = false) (h1 : i < e1.length) : fAsg io i fa e = .nx (e1.set i (.ow ds)) := by
  show (fa e).then _ = _
  rw [h]
  show (match putN io i (.fl ds) e1 with | some e2 => Fl.nx e2 | none => .bad) = _
  rw [put_ok h0 h1 rfl]
theorem asgT_px {t : Tgt} (h : fa e = .ok (.sh d) e1) (ht : t d e1 = some e2) : fAsgT t (fun e => shr io (fa e)) e = .nx e2 := by
  show (shr io (fa e)).then _ = _
  rw [h]
  show (match t d e1 with | some e2 => Fl.nx e2 | none => .bad) = _
  rw [ht]
theorem exp_ok (h : fa e = .ok rv e1) : fExp fa e = .nx e1 := by unfold fExp; rw [h]; rfl
theorem app_ok {i : Nat} {xs : List PyData} (hi : e.at i = .ow xs) (h : Ls fl e [d]) (hz : xs.length < line) : fMth i gApp fl e = .ok (.sh .none) (e.set i (.ow (xs ++ [d]))) := by
  unfold fMth fMethE
  rw [hi]
  simp only
  rw [h]
  simp only [Rs.bind, hi, List.map_cons, List.map_nil, gApp, if_pos hz]
theorem pop_ok {i : Nat} {xs : List PyData} (hi : e.at i = .ow (xs ++ [d])) : fMth i gPop fNil e = .ok (.sh d) (e.set i (.ow xs)) := by
  unfold fMth fMethE
  rw [hi]
  simp only [fNil, Rs.bind, hi]
  simp [gPop]
theorem set_ow {i : Nat} {xs : List PyData} {k : Int} {j : Nat} (hv : Px fa e d) (hi : e.at i = .ow xs) (hk : Vl fb e (.int k)) (hj : ixN xs.length k = some j) : fPut io i fa fb e = .nx (e.set i (.ow (xs.set j d))) := by
  obtain ⟨rk, h1, h2⟩ := hk
  unfold fPut
  rw [hv]
  show (if (e.at i).own = true then _ else _) = _
  rw [hi]
  show (fb e).then _ = _
  rw [h1]
  simp only [Rs.then, hi, h2, hj]
theorem for_eq {t : Tgt} {fi : Ev → Rs (List PyData)} {body : Ev → Fl} (h : fi e = .ok ds e1) : fFor t fi body e = forL t body ds e1 := by unfold fFor; rw [h]
/-- a loop with what holds behind its first items -/
theorem forL_inv {t : Tgt} {body : Ev → Fl} {DS : List PyData} (I : List PyData → Ev → Prop) (hs : ∀ done d rest e, done ++ d :: rest = DS → I done e → ∃ e1 e2, t d e = some e1 ∧ (body e1 = .nx e2 ∨ body e1 = .ct e2) ∧ I (done ++ [d]) e2) : ∀ {ds done : List PyData} {e : Ev}, done ++ ds = DS → I done e → ∃ e', forL t body ds e = .nx e' ∧ I DS e'
  | [], done, e, hq, h => ⟨e, rfl, by rw [List.append_nil] at hq; exact hq ▸ h⟩
  | d :: ds, done, e, hq, h => by
    obtain ⟨e1, e2, h1, h2, h3⟩ := hs done d ds e hq h
    obtain ⟨e', h4, h5⟩ := forL_inv I hs (ds := ds) (by rw [List.append_assoc]; exact hq) h3
    refine ⟨e', ?_, h5⟩
    simp only [forL, h1]
    rcases h2 with h2 | h2 <;> rw [h2] <;> exact h4
theorem for_inv {t : Tgt} {fi : Ev → Rs (List PyData)} {body : Ev → Fl} {DS : List PyData} (I : List PyData → Ev → Prop) (hi : fi e = .ok DS e1) (h0 : I [] e1) (hs : ∀ done d rest e, done ++ d :: rest = DS → I done e → ∃ e1 e2, t d e = some e1 ∧ (body e1 = .nx e2 ∨ body e1 = .ct e2) ∧ I (done ++ [d]) e2) : ∃ e', fFor t fi body e = .nx e' ∧ I DS e' := by
  obtain ⟨e', h1, h2⟩ := forL_inv I hs (ds := DS) (done := []) rfl h0
  exact ⟨e', (for_eq hi).trans h1, h2⟩
theorem seq_px {io : Bool} (h : Px fa e d) (hi : itemsOf d = some ds) : fSeq io fa e = .ok ds e := by
  unfold fSeq
  rw [h]
  show (match itemsOf d with | some ds => Rs.ok ds e | none => .bad) = _
  rw [hi]
theorem seq_fx {io : Bool} (h : Fx fa e ds) : fSeq io fa e = .ok ds e := by
  unfold fSeq
  rw [h]; rfl
theorem rng1_ok {k : Int} (h : Lv fl e [.int k]) (hk : -4611686018427387904 ≤ k ∧ k < 4611686018427387904) : fRng1 fl e = .ok (rngD 0 k.toNat) e := by
  obtain ⟨rvs, h1, h2⟩ := h
  unfold fRng1
  rw [h1]
  simp only [Rs.bind, h2, if_pos hk]
theorem rng2_ok {i k : Int} (h : Lv fl e [.int i, .int k]) (hk : (-4611686018427387904 ≤ i ∧ i < 4611686018427387904) ∧ -4611686018427387904 ≤ k ∧ k < 4611686018427387904) : fRng2 fl e = .ok (rngD i (k - i).toNat) e := by
  obtain ⟨rvs, h1, h2⟩ := h
  unfold fRng2
  rw [h1]
  simp only [Rs.bind, h2, if_pos hk]
/-- a comprehension: an item at a time -/
theorem lcL_map {vs : List Nat} {t : Tgt} {g : Ev → Rs Bool} {fa : Ev → Rs Rv} {e0 : Ev} (h : PyData → Option PyData) : ∀ {ds acc : List PyData}, acc.length + ds.length ≤ line → (∀ d ∈ ds, ∃ e1, t d e0 = some e1 ∧ wipeE e1 vs = e0 ∧ match h d with
    | none => Bt g e1 false
    | some x => Bt g e1 true ∧ shr io (fa e1) = .ok (.sh x) e1) → lcL io vs t g fa ds e0 acc = .ok (acc ++ ds.filterMap h) e0
  | [], acc, _, _ => by simp [lcL]
  | d :: ds, acc, hz, hs => by
    obtain ⟨e1, h1, h2, h3⟩ := hs d List.mem_cons_self
    have hs' := fun x hx => hs x (List.mem_cons_of_mem _ hx)
    simp only [lcL, h1]
    cases q : h d with
    | none =>
      rw [q] at h3
      rw [h3]
      simp only [h2]
      rw [lcL_map h (by simp at hz; omega) hs', List.filterMap_cons_none q]
    | some x =>
      rw [q] at h3
      rw [h3.1]
      simp only [h3.2]
      rw [if_pos (by simp at hz; omega), h2, lcL_map h (by simp at hz ⊢; omega) hs', List.filterMap_cons_some q, List.append_assoc]
      rfl
theorem rest_wipe {e : Ev} {vs : List Nat} : restE e (wipeE e vs) vs = e := by
  apply List.ext_getElem?
  intro i
  have hl : (restE e (wipeE e vs) vs).length = e.length := by rw [restE_len, wipeE_len]
  by_cases hi : i < e.length
  · have h := restE_at e (wipeE e vs) (wipeE_len e vs).symm vs i
    have h2 : (restE e (wipeE e vs) vs).at i = e.at i := by
      rw [h]
      by_cases hm : i ∈ vs
      · rw [if_pos hm]
      · rw [if_neg hm, wipeE_at, if_neg hm]
    unfold Ev.at at h2
    rw [List.getD_eq_getElem?_getD, List.getD_eq_getElem?_getD] at h2
    have h3 : i < (restE e (wipeE e vs) vs).length := by rw [hl]; exact hi
    rw [List.getElem?_eq_getElem h3, List.getElem?_eq_getElem hi] at h2 ⊢
    exact congrArg some h2
  · rw [List.getElem?_eq_none (by rw [hl]; omega), List.getElem?_eq_none (by omega)]
theorem fx_lc {vs : List Nat} {fi : Ev → Rs (List PyData)} {t : Tgt} {g : Ev → Rs Bool} {fa : Ev → Rs Rv} (h : PyData → Option PyData) (hi : fi e = .ok ds e) (hu : unowned e vs = true) (h0 : io = false ∨ 0 ∉ vs) (hz : ds.length ≤ line)
    (hs : ∀ d ∈ ds, ∃ e1, t d (wipeE e vs) = some e1 ∧ wipeE e1 vs = wipeE e vs ∧ match h d with
    | none => Bt g e1 false
    | some x => Bt g e1 true ∧ shr io (fa e1) = .ok (.sh x) e1) : Fx (fLc io vs fi t g fa) e (ds.filterMap h) := by
  unfold Fx fLc
  rw [hi]
  simp only
  rw [if_pos ⟨hu, h0⟩, lcL_map h (by simpa using hz) hs]
  simp only [List.nil_append]
  rw [rest_wipe]
/-- the same, each item taken -/
theorem fx_lcA {vs : List Nat} {fi : Ev → Rs (List PyData)} {t : Tgt} {fa : Ev → Rs Rv} (h : PyData → PyData) (hi : fi e = .ok ds e) (hu : unowned e vs = true) (h0 : io = false ∨ 0 ∉ vs) (hz : ds.length ≤ line)
    (hs : ∀ d ∈ ds, ∃ e1, t d (wipeE e vs) = some e1 ∧ wipeE e1 vs = wipeE e vs ∧ shr io (fa e1) = .ok (.sh (h d)) e1) : Fx (fLc io vs fi t (fun e => .ok true e) fa) e (ds.map h) := by
  rw [← List.filterMap_eq_map]
  refine fx_lc (fun d => some (h d)) hi hu h0 hz fun d hd => ?_
  obtain ⟨e1, h1, h2, h3⟩ := hs d hd
  exact ⟨e1, h1, h2, rfl, h3⟩
end
end PV
namespace PV
open PySem PySem.Spec PyProof.Rows L2
section
variable {e : Ev} {fa fb : Ev → Rs Rv} {a b : Int} {d : PyData} {ds : List PyData}
theorem px_ixL {k : Int} (h : Vl fa e (.list ds)) (hk : Vl fb e (.int k)) (hd : atI ds k = some d) : Px (fBin gIx fa fb) e d := px_bin h hk (by show (atI ds k).map Od.sh = _; rw [hd]; rfl)
theorem px_ixT {k : Int} (h : Vl fa e (.tuple ds)) (hk : Vl fb e (.int k)) (hd : atI ds k = some d) : Px (fBin gIx fa fb) e d := px_bin h hk (by show (atI ds k).map Od.sh = _; rw [hd]; rfl)
theorem px_add (ha : Px fa e (.int a)) (hb : Px fb e (.int b)) : Px (fBin gAdd fa fb) e (.int (a + b)) := px_bin ha.vl hb.vl rfl
theorem px_sub (ha : Px fa e (.int a)) (hb : Px fb e (.int b)) : Px (fBin gSub fa fb) e (.int (a - b)) := px_bin ha.vl hb.vl rfl
theorem px_mul (ha : Px fa e (.int a)) (hb : Px fb e (.int b)) (h : (-18446744073709551616 < a ∧ a < 18446744073709551616) ∨ (-18446744073709551616 < b ∧ b < 18446744073709551616)) : Px (fBin gMul fa fb) e (.int (a * b)) := px_bin ha.vl hb.vl (by
  show (if (-big64 < a ∧ a < big64) ∨ (-big64 < b ∧ b < big64) then some (Od.sh (.int (a * b))) else none) = _
  rw [if_pos]
  exact h)
theorem px_mod (ha : Px fa e (.int a)) (hb : Px fb e (.int b)) (h : 0 < b) : Px (fBin gMod fa fb) e (.int (a % b)) := px_bin ha.vl hb.vl (by show (if 0 < b then some (Od.sh (.int (a % b))) else none) = _; rw [if_pos h])
theorem px_div (ha : Px fa e (.int a)) (hb : Px fb e (.int b)) (h : 0 < b ∧ b < 1073741824) : Px (fBin gDiv fa fb) e (.int (a / b)) := px_bin ha.vl hb.vl (by show (if 0 < b ∧ b < 1073741824 then some (Od.sh (.int (a / b))) else none) = _; rw [if_pos h])
theorem px_gt (ha : Px fa e (.int a)) (hb : Px fb e (.int b)) : Px (fBin gGt fa fb) e (.bool (decide (b < a))) := px_bin ha.vl hb.vl rfl
theorem px_ge (ha : Px fa e (.int a)) (hb : Px fb e (.int b)) : Px (fBin gGe fa fb) e (.bool (decide (b ≤ a))) := px_bin ha.vl hb.vl rfl
theorem px_lt (ha : Px fa e (.int a)) (hb : Px fb e (.int b)) : Px (fBin gLt fa fb) e (.bool (decide (a < b))) := px_bin ha.vl hb.vl rfl
theorem px_le (ha : Px fa e (.int a)) (hb : Px fb e (.int b)) : Px (fBin gLe fa fb) e (.bool (decide (a ≤ b))) := px_bin ha.vl hb.vl rfl
theorem bt_t {p : Prop} [Decidable p] {ga : Ev → Rs Bool} (h : Bt ga e (decide p)) (hp : p) : Bt ga e true := by rw [decide_eq_true hp] at h; exact h
theorem bt_f {p : Prop} [Decidable p] {ga : Ev → Rs Bool} (h : Bt ga e (decide p)) (hp : ¬ p) : Bt ga e false := by rw [decide_eq_false hp] at h; exact h
end
end PV
namespace PV
theorem nx_of {f : Ev → Fl} {e e1 e2 : Ev} (h : f e = .nx e1) (he : e1 = e2) : f e = .nx e2 := he ▸ h
end PV
namespace PV
open PySem PySem.Spec PyProof.Rows L2
/-- a comprehension that changes names' lists: what holds behind its first items -/
theorem lcL_inv {io : Bool} {vs : List Nat} {t : Tgt} {g : Ev → Rs Bool} {fa : Ev → Rs Rv} {DS : List PyData} (I : List PyData → List PyData → Ev → Prop) (hs : ∀ done acc d rest e, done ++ d :: rest = DS → I done acc e → ∃ e1 x e3, t d e = some e1 ∧ g e1 = .ok true e1 ∧ shr io (fa e1) = .ok (.sh x) e3 ∧ I (done ++ [d]) (acc ++ [x]) (wipeE e3 vs)) : ∀ {ds done acc : List PyData} {e : Ev}, acc.length + ds.length ≤ line → done ++ ds = DS → I done acc e →
    ∃ acc' e', lcL io vs t g fa ds e acc = .ok acc' e' ∧ I DS acc' e' ∧ acc'.length = acc.length + ds.length
  | [], done, acc, e, _, hq, h => ⟨acc, e, rfl, by rw [List.append_nil] at hq; exact hq ▸ h, by simp⟩
  | d :: ds, done, acc, e, hz, hq, h => by
    obtain ⟨e1, x, e3, h1, h2, h3, h4⟩ := hs done acc d ds e hq h
    obtain ⟨acc', e', h5, h6, h7⟩ := lcL_inv I hs (ds := ds) (by simp at hz ⊢; omega) (by rw [List.append_assoc]; exact hq) h4
    refine ⟨acc', e', ?_, h6, by rw [h7]; simp; omega⟩
    simp only [lcL, h1, h2, h3]
    rw [if_pos (by simp at hz; omega)]
    exact h5
theorem ok_lc {io : Bool} {vs : List Nat} {fi : Ev → Rs (List PyData)} {t : Tgt} {g : Ev → Rs Bool} {fa : Ev → Rs Rv} {e e1 : Ev} {DS : List PyData} (I : List PyData → List PyData → Ev → Prop) (hi : fi e = .ok DS e1) (hu : unowned e1 vs = true) (h0 : io = false ∨ 0 ∉ vs) (hz : DS.length ≤ line) (hI : I [] [] (wipeE e1 vs))
    (hs : ∀ done acc d rest e, done ++ d :: rest = DS → I done acc e → ∃ e1 x e3, t d e = some e1 ∧ g e1 = .ok true e1 ∧ shr io (fa e1) = .ok (.sh x) e3 ∧ I (done ++ [d]) (acc ++ [x]) (wipeE e3 vs)) : ∃ acc e2, fLc io vs fi t g fa e = .ok (.fl acc) (restE e1 e2 vs) ∧ I DS acc e2 ∧ acc.length = DS.length := by
  obtain ⟨acc, e2, h1, h2, h3⟩ := lcL_inv (io := io) (vs := vs) (t := t) (g := g) (fa := fa) I hs (ds := DS) (done := []) (acc := []) (by simpa using hz) rfl hI
  refine ⟨acc, e2, ?_, h2, by simpa using h3⟩
  unfold fLc
  rw [hi]
  simp only
  rw [if_pos ⟨hu, h0⟩, h1]
end PV
namespace PV
open PySem PySem.Spec PyProof.Rows L2
abbrev IP := Int × Int
def encP (p : IP) : PyData := .tuple [.int p.1, .int p.2]
def leP (p q : IP) : Bool := decide (p.1 < q.1 ∨ (p.1 = q.1 ∧ p.2 ≤ q.2))
theorem le_encP (p q : IP) : PySem.W.dataLe false id (encP p) (encP q) = leP p q := congrFun (congrFun (PySem.W.dataLe_ii (β := IP) (fun p => p.1) (fun p => p.2)) p) q
theorem srt_pairs (st : List IP) : srtD (st.map encP) = (st.mergeSort leP).map encP := by
  unfold srtD
  exact (List.map_mergeSort fun a _ b _ => (le_encP a b).symm).symm
theorem alike_pairs (st : List IP) : alikeB (st.map encP) = true ∧ sortB (st.map encP) = true ∧ deepB (st.map encP) = true := by
  have hm : ∀ d ∈ st.map encP, ∃ p, d = encP p := fun d hd => by
    obtain ⟨p, _, rfl⟩ := List.mem_map.mp hd
    exact ⟨p, rfl⟩
  refine ⟨?_, ?_, ?_⟩
  · unfold alikeB
    rw [List.all_eq_true]
    intro d hd
    rw [List.all_eq_true]
    intro d' hd'
    obtain ⟨p, rfl⟩ := hm d hd
    obtain ⟨q, rfl⟩ := hm d' hd'
    rfl
  · unfold sortB
    rw [Bool.or_eq_true]
    left
    rw [List.all_eq_true]
    intro d hd
    obtain ⟨p, rfl⟩ := hm d hd
    rfl
  · unfold deepB
    rw [List.all_eq_true]
    intro d hd
    obtain ⟨p, rfl⟩ := hm d hd
    rfl
theorem sorted_list {st : List IP} (h : st.length ≤ line) : gSorted [.list (st.map encP)] = some (.fl ((st.mergeSort leP).map encP)) := by
  obtain ⟨h1, h2, h3⟩ := alike_pairs st
  show (if alikeB (st.map encP) = true ∧ sortB (st.map encP) = true ∧ deepB (st.map encP) = true ∧ (st.map encP).length ≤ line then some (Od.fl (sortQ (st.map encP))) else none) = _
  rw [if_pos ⟨h1, h2, h3, by rw [List.length_map]; exact h⟩, sortQ_eq, srt_pairs]
theorem sorted_tup {st : List IP} (h : st.length ≤ line) : gSorted [.tuple (st.map encP)] = some (.fl ((st.mergeSort leP).map encP)) := by
  obtain ⟨h1, h2, h3⟩ := alike_pairs st
  show (if alikeB (st.map encP) = true ∧ sortB (st.map encP) = true ∧ deepB (st.map encP) = true ∧ (st.map encP).length ≤ line then some (Od.fl (sortQ (st.map encP))) else none) = _
  rw [if_pos ⟨h1, h2, h3, by rw [List.length_map]; exact h⟩, sortQ_eq, srt_pairs]
theorem leP_trans (a b c : IP) : leP a b = true → leP b c = true → leP a c = true := by
  unfold leP
  simp only [decide_eq_true_eq]
  omega
theorem leP_total (a b : IP) : (leP a b || leP b a) = true := by
  unfold leP
  simp only [Bool.or_eq_true, decide_eq_true_eq]
  omega
theorem sorted_pairs (st : List IP) : (st.mergeSort leP).Pairwise fun a b => leP a b = true := List.pairwise_mergeSort leP_trans leP_total st
theorem line_big : 100000 ≤ line := by decide
end PV
namespace PV
theorem le_line {n : Nat} (h : n ≤ 100000) : n ≤ line := Nat.le_trans h line_big
end PV
/-! ### where a name's list is changed on the way -/
namespace PV
open PySem PySem.Spec PyProof.Rows L2
def Sx (f : Ev → Rs Rv) (e : Ev) (d : PyData) (e1 : Ev) : Prop := f e = .ok (.sh d) e1
def Sf (f : Ev → Rs Rv) (e : Ev) (ds : List PyData) (e1 : Ev) : Prop := f e = .ok (.fl ds) e1
def Sl' (f : Ev → Rs (List Rv)) (e : Ev) (ds : List PyData) (e1 : Ev) : Prop := f e = .ok (ds.map .sh) e1
section
variable {e e1 e2 e3 : Ev} {fa fb fc : Ev → Rs Rv} {fl : Ev → Rs (List Rv)} {a b c d : PyData} {ds : List PyData} {io : Bool}
theorem Px.sx (h : Px fa e d) : Sx fa e d e := h
theorem Fx.sf (h : Fx fa e ds) : Sf fa e ds e := h
theorem Ls.sl (h : Ls fl e ds) : Sl' fl e ds e := h
theorem sx_bin {g : PyData → PyData → Option Od} (ha : Sx fa e a e1) (hb : Sx fb e1 b e2) (hg : g a b = some (.sh d)) : Sx (fBin g fa fb) e d e2 := by
  unfold Sx fBin
  rw [ha]
  show (fb e1).bind _ = _
  rw [hb]
  show outR (g a b) e2 = _
  rw [hg]; rfl
theorem sx_binF {g : PyData → PyData → Option Od} (ha : Sf fa e ds e1) (hb : Sx fb e1 b e2) (hg : g (.list ds) b = some (.sh d)) : Sx (fBin g fa fb) e d e2 := by
  unfold Sx fBin
  rw [ha]
  show (fb e1).bind _ = _
  rw [hb]
  show outR (g (.list ds) b) e2 = _
  rw [hg]; rfl
theorem sl_cons (h : Sx fa e d e1) (hr : Sl' fl e1 ds e2) : Sl' (fCons (fun e => shr io (fa e)) fl) e (d :: ds) e2 := by
  unfold Sl' fCons
  show (stab (shr io (fa e))).bind _ = _
  rw [h]
  show (fl e1).bind _ = _
  rw [hr]; rfl
theorem sl_consF {xs : List PyData} (h : Sf fa e xs e1) (hr : Sl' fl e1 ds e2) : Sl' (fCons (fun e => shr io (fa e)) fl) e (.list xs :: ds) e2 := by
  unfold Sl' fCons
  show (stab (shr io (fa e))).bind _ = _
  rw [h]
  show (fl e1).bind _ = _
  rw [hr]; rfl
theorem sf_lst (h : Sl' fl e ds e1) (hz : ds.length ≤ line) : Sf (fLst fl) e ds e1 := by
  unfold Sf fLst
  rw [h]
  simp only [Rs.bind, shD_map, if_pos hz]
theorem sx_tup (h : Sl' fl e ds e1) (hz : ds.length ≤ line) : Sx (fTup fl) e (.tuple ds) e1 := by
  unfold Sx fTup
  rw [h]
  simp only [Rs.bind, shD_map, if_pos hz]
theorem sx_fn {F : Fn} {xs : List PyData} (hio : F.io = false) (h : Sl' fl e ds e1) (hd : F.den ds = .ret d xs) : Sx (fFn F fl) e d e1 := by
  unfold Sx fFn
  rw [h]
  show kFn F (ds.map .sh) e1 = _
  unfold kFn
  rw [hio]
  simp only [shD_map, hd, outF]
theorem sx_io {F : Fn} {i : Nat} {ps ps1 xs : List PyData} (hio : F.io = true) (hp : e.at i = .ow ps) (h : Sl' fl e ds e1) (hp1 : e1.at i = .ow ps1) (hd : F.den (.list ps1 :: ds) = .ret d xs) : Sx (fFn F (fCons (fVar i) fl)) e d (e1.set i (.ow xs)) := by
  have hv : fVar i e = .ok (.sl i) e := by unfold fVar; rw [hp]
  unfold Sx fFn fCons
  rw [hv]
  show (((fl e).bind fun rs e2 => .ok (.sl i :: rs) e2)).bind (kFn F) = _
  rw [h]
  show kFn F (.sl i :: ds.map .sh) e1 = _
  unfold kFn
  rw [hio]
  simp only [hp1, shD_map, hd, outIo]
theorem Sx.to (h : Sx fa e d e1) (he : e1 = e2) : Sx fa e d e2 := he ▸ h
theorem shr_sx (h : Sx fa e d e1) : shr io (fa e) = .ok (.sh d) e1 := by rw [h]; rfl
theorem sx_if_t {ga : Ev → Rs Bool} (h : Bt ga e true) (h1 : Sx fa e d e1) : Sx (fIf ga fa fb) e d e1 := (if_t h).trans h1
theorem sx_if_f {ga : Ev → Rs Bool} (h : Bt ga e false) (h1 : Sx fb e d e1) : Sx (fIf ga fa fb) e d e1 := (if_f h).trans h1
theorem srng1_ok {k : Int} (h : Sx fa e (.int k) e1) (hk : -4611686018427387904 ≤ k ∧ k < 4611686018427387904) : fRng1 (fCons fa fNil) e = .ok (rngD 0 k.toNat) e1 := by
  unfold fRng1 fCons
  rw [h]
  show (if -4611686018427387904 ≤ k ∧ k < 4611686018427387904 then _ else _) = _
  rw [if_pos hk]
theorem sapp_ok {i : Nat} {xs : List PyData} (hi : ∃ ys, e.at i = .ow ys) (h : Sl' fl e [d] e1) (hi1 : e1.at i = .ow xs) (hz : xs.length < line) : fMth i gApp fl e = .ok (.sh .none) (e1.set i (.ow (xs ++ [d]))) := by
  obtain ⟨ys, hi⟩ := hi
  unfold fMth fMethE
  rw [hi]
  simp only
  rw [h]
  simp only [Rs.bind, hi1, List.map_cons, List.map_nil, gApp, if_pos hz]
end
end PV
namespace PV
open PySem PySem.Spec PyProof.Rows L2
theorem rng_at {lo : Int} {n : Nat} {done rest : List PyData} {d : PyData} (h : done ++ d :: rest = rngD lo n) : d = .int (lo + (done.length : Nat)) ∧ done.length < n := by
  have hl := congrArg List.length h
  simp [rngD] at hl
  have h1 : (done ++ d :: rest)[done.length]? = some d := by simp
  rw [h] at h1
  unfold rngD at h1
  rw [List.getElem?_map, List.getElem?_range (by omega)] at h1
  simp at h1
  exact ⟨h1.symm, by omega⟩
theorem rng_len (lo : Int) (n : Nat) : (rngD lo n).length = n := by simp [rngD]
end PV
namespace PV
open PySem PySem.Spec PyProof.Rows L2
section
variable {e e1 e2 : Ev} {fa fb : Ev → Rs Rv} {fl : Ev → Rs (List Rv)} {b d : PyData} {ds : List PyData} {io : Bool}
theorem ls_fd {xs : List (PyData × PyData)} (h : fa e = .ok (.fd xs) e) (hr : Ls fl e ds) : Ls (fCons (fun e => shr io (fa e)) fl) e (.dict xs :: ds) := by
  unfold Ls fCons
  show (stab (shr io (fa e))).bind _ = _
  rw [h]
  show (fl e).bind _ = _
  rw [hr]; rfl
/-- the first one a name's own list, as it stands behind the second one -/
theorem sx_binS {g : PyData → PyData → Option Od} {i : Nat} {xs : List PyData} (h0 : ∃ ys, e.at i = .ow ys) (hb : Sx fb e b e2) (h2 : e2.at i = .ow xs) (hg : g (.list xs) b = some (.sh d)) : Sx (fBin g (fVar i) fb) e d e2 := by
  obtain ⟨ys, h0⟩ := h0
  have hv : fVar i e = .ok (.sl i) e := by unfold fVar; rw [h0]
  unfold Sx fBin
  rw [hv]
  show (fb e).bind _ = _
  rw [hb]
  show bin2 g (.sl i) (.sh b) e2 = _
  unfold bin2
  simp only [res, h2]
  rw [hg]; rfl
theorem px_pow {a b : Int} (ha : Px fa e (.int a)) (hb : Px fb e (.int b)) (h : 0 ≤ b ∧ b ≤ 1000 ∧ a.natAbs < 18446744073709551616) : Px (fBin gPow fa fb) e (.int (a ^ b.toNat)) := px_bin ha.vl hb.vl (by
  show (if 0 ≤ b ∧ b ≤ 1000 ∧ a.natAbs < 18446744073709551616 then some (Od.sh (.int (a ^ b.toNat))) else none) = _
  rw [if_pos h])
end
end PV
namespace PV
open PySem PySem.Spec PyProof.Rows L2
section
variable {e : Ev} {fa fb : Ev → Rs Rv} {fl : Ev → Rs (List Rv)} {d : PyData} {ds as bs : List PyData}
theorem ls_pxN (h : Px fa e d) (hr : Ls fl e ds) : Ls (fCons fa fl) e (d :: ds) := by
  unfold Ls fCons
  rw [h]
  show (fl e).bind _ = _
  rw [hr]; rfl
theorem ls_fxN {xs : List PyData} (h : Fx fa e xs) (hr : Ls fl e ds) : Ls (fCons fa fl) e (.list xs :: ds) := by
  unfold Ls fCons
  rw [h]
  show (fl e).bind _ = _
  rw [hr]; rfl
theorem zip_tup (h : Ls fl e [.tuple as, .tuple bs]) : fZip fl e = .ok (zipD as bs) e := by
  unfold fZip
  rw [h]; rfl
theorem zip_lst (h : Ls fl e [.list as, .list bs]) : fZip fl e = .ok (zipD as bs) e := by
  unfold fZip
  rw [h]; rfl
end
end PV
namespace PV
open PySem PySem.Spec PyProof.Rows L2
theorem while_inv {c : Ev → Rs Bool} {body : Ev → Fl} (I : Ev → Prop) (μ : Ev → Nat) (hs : ∀ e, I e → ∃ b, c e = .ok b e ∧ (b = true → ∃ e2, (body e = .nx e2 ∨ body e = .ct e2) ∧ I e2 ∧ μ e2 < μ e)) : ∀ {n : Nat} {e : Ev}, I e → μ e < n → ∃ e', whileL c body n e = .nx e' ∧ I e' ∧ c e' = .ok false e'
  | 0, e, _, h => absurd h (Nat.not_lt_zero _)
  | n + 1, e, hI, h => by
    obtain ⟨b, h1, h2⟩ := hs e hI
    cases b with
    | false => exact ⟨e, by simp only [whileL, h1], hI, h1⟩
    | true =>
      obtain ⟨e2, h3, h4, h5⟩ := h2 rfl
      obtain ⟨e', h6, h7, h8⟩ := while_inv I μ hs (n := n) h4 (by omega)
      refine ⟨e', ?_, h7, h8⟩
      simp only [whileL, h1]
      rcases h3 with h3 | h3 <;> rw [h3] <;> exact h6
/-- what is come to from a town by paths -/
inductive Rch (ps : List IP) (a : Int) : Int → Prop
  | refl : Rch ps a a
  | step {b c : Int} : Rch ps a b → (b, c) ∈ ps → Rch ps a c
theorem Rch.trans {ps : List IP} {a b c : Int} (h : Rch ps a b) (h2 : Rch ps b c) : Rch ps a c := by
  induction h2 with
  | refl => exact h
  | step _ hm ih => exact ih.step hm
def encI (xs : List Int) : List PyData := xs.map .int
theorem any_eq (xs : List Int) (b : Int) : (encI xs).any (fun z => PyData.eqv z (.int b)) = xs.contains b := by
  induction xs with
  | nil => rfl
  | cons x r ih =>
    show (PyData.eqv (.int x) (.int b) || (encI r).any _) = _
    rw [ih, List.contains_cons]
    congr 1
    show (x == b) = (b == x)
    exact BEq.comm
theorem shaped_ints (xs : List Int) : SeqAt.shaped (.list (encI xs)) = true ∧ SeqAt.shaped (.tuple (encI xs)) = true := by
  have h1 : PyData.canLayAll0 (encI xs) = true := by
    induction xs with
    | nil => rfl
    | cons x r ih => show (PyData.canLay0 (.int x) && PyData.canLayAll0 (encI r)) = true; rw [ih]; rfl
  have h2 : PyData.depthAll (encI xs) ≤ 1 := by
    induction xs with
    | nil => simp [encI, PyData.depthAll]
    | cons x r ih =>
      have := ih (by
        have h : (PyData.canLay0 (.int x) && PyData.canLayAll0 (encI r)) = true := h1
        exact (Bool.and_eq_true_iff.mp h).2)
      simp only [encI, List.map_cons, PyData.depthAll] at this ⊢
      simp only [PyData.depth]
      omega
  constructor <;> (unfold SeqAt.shaped; refine Bool.and_eq_true_iff.mpr ⟨by simp only [PyData.canLay0]; exact h1, decide_eq_true ?_⟩; simp only [PyData.depth]; omega)
end PV
namespace PV
open PySem PySem.Spec PyProof.Rows L2
theorem nodup_len {α : Type} [DecidableEq α] : ∀ {xs ys : List α}, xs.Nodup → (∀ x ∈ xs, x ∈ ys) → xs.length ≤ ys.length
  | [], ys, _, _ => Nat.zero_le _
  | x :: xs, ys, h, hs => by
    have hx := hs x List.mem_cons_self
    have h1 := List.nodup_cons.mp h
    have h2 := nodup_len (xs := xs) (ys := ys.erase x) h1.2 fun z hz => by
      have hne : z ≠ x := fun q => h1.1 (q ▸ hz)
      exact (List.mem_erase_of_ne hne).mpr (hs z (List.mem_cons_of_mem _ hz))
    rw [List.length_erase_of_mem hx] at h2
    have := List.length_pos_of_mem hx
    rw [List.length_cons]
    omega
theorem srt_ints (xs : List Int) : srtD (encI xs) = encI (srtI xs) := srt_intsM xs
theorem sorted_ints {xs : List Int} (h : xs.length ≤ line) : gSorted [.list (encI xs)] = some (.fl (encI (srtI xs))) := by
  have hm : ∀ d ∈ encI xs, ∃ p : Int, d = .int p := fun d hd => by
    obtain ⟨p, _, rfl⟩ := List.mem_map.mp hd
    exact ⟨p, rfl⟩
  have h1 : alikeB (encI xs) = true := by
    unfold alikeB
    rw [List.all_eq_true]
    intro d hd
    rw [List.all_eq_true]
    intro d' hd'
    obtain ⟨p, rfl⟩ := hm d hd
    obtain ⟨q, rfl⟩ := hm d' hd'
    rfl
  have h2 : sortB (encI xs) = true := by
    unfold sortB
    rw [Bool.or_eq_true]
    right
    rw [List.all_eq_true]
    intro d hd
    obtain ⟨p, rfl⟩ := hm d hd
    rfl
  have h3 : deepB (encI xs) = true := by
    unfold deepB
    rw [List.all_eq_true]
    intro d hd
    obtain ⟨p, rfl⟩ := hm d hd
    rfl
  show (if alikeB (encI xs) = true ∧ sortB (encI xs) = true ∧ deepB (encI xs) = true ∧ (encI xs).length ≤ line then some (Od.fl (sortQ (encI xs))) else none) = _
  rw [if_pos ⟨h1, h2, h3, by unfold encI; rw [List.length_map]; exact h⟩, sortQ_eq, srt_ints]
theorem srtI_mem {xs : List Int} {x : Int} : x ∈ srtI xs ↔ x ∈ xs := List.mem_mergeSort
theorem srtI_lt {xs : List Int} (h : xs.Nodup) : (srtI xs).Pairwise (· < ·) := by
  have h1 : (srtI xs).Pairwise fun a b => decide (a ≤ b) = true := List.pairwise_mergeSort (fun a b c => by simp only [decide_eq_true_eq]; omega) (fun a b => by simp only [Bool.or_eq_true, decide_eq_true_eq]; omega) xs
  have h2 : (srtI xs).Nodup := (List.mergeSort_perm xs _).nodup_iff.mpr h
  unfold List.Nodup at h2
  refine (h1.and h2).imp fun {a b} hab => ?_
  have := of_decide_eq_true hab.1
  have := hab.2
  omega
end PV
namespace PV
open PySem PySem.Spec PyProof.Rows L2
section
variable {e e1 e2 : Ev} {fa fb : Ev → Rs Rv} {fl : Ev → Rs (List Rv)} {d r : PyData} {ds xs : List PyData} {io : Bool}
/-- a name's own list is handed on: it stands still from now on -/
theorem sl_own {i : Nat} (hi : e.at i = .ow xs) (h0 : (io && i == 0) = false) (hr : Sl' fl (e.set i (.sh (.list xs))) ds e2) : Sl' (fCons (fun e => shr io (fVar i e)) fl) e (.list xs :: ds) e2 := by
  have hv : fVar i e = .ok (.sl i) e := by unfold fVar; rw [hi]
  have hs : shr io (fVar i e) = .ok (.sh (.list xs)) (e.set i (.sh (.list xs))) := by
    rw [hv]
    simp only [shr, h0, hi]
    rfl
  unfold Sl' fCons
  show (stab (shr io (fVar i e))).bind _ = _
  rw [hs]
  show (fl (e.set i (.sh (.list xs)))).bind _ = _
  rw [hr]; rfl
theorem sx_cal1 {g : List PyData → Option Od} (h : Sx fa e d e1) (hg : g [d] = some (.sh r)) : Sx (fCal g (fCons fa fNil)) e r e1 := by
  unfold Sx fCal fCons
  rw [h]
  show (match ((resL e1 [.sh d]).bind g) with | some o => Rs.ok o.rv e1 | none => .bad) = _
  simp only [resL, res, Option.bind_some, hg, Od.rv]
end
end PV
namespace PV
open PySem PySem.Spec PyProof.Rows L2
theorem forL_or {t : Tgt} {body : Ev → Fl} {DS : List PyData} (I : List PyData → Ev → Prop) (R : Rv → Ev → Prop) (hs : ∀ done d rest e, done ++ d :: rest = DS → I done e → ∃ e1, t d e = some e1 ∧ ((∃ e2, (body e1 = .nx e2 ∨ body e1 = .ct e2) ∧ I (done ++ [d]) e2) ∨ ∃ rv e2, body e1 = .rt rv e2 ∧ R rv e2)) :
    ∀ {ds done : List PyData} {e : Ev}, done ++ ds = DS → I done e → (∃ e', forL t body ds e = .nx e' ∧ I DS e') ∨ ∃ rv e', forL t body ds e = .rt rv e' ∧ R rv e'
  | [], done, e, hq, h => .inl ⟨e, rfl, by rw [List.append_nil] at hq; exact hq ▸ h⟩
  | d :: ds, done, e, hq, h => by
    obtain ⟨e1, h1, h2⟩ := hs done d ds e hq h
    rcases h2 with ⟨e2, h2, h3⟩ | ⟨rv, e2, h2, h3⟩
    · rcases forL_or I R hs (ds := ds) (by rw [List.append_assoc]; exact hq) h3 with ⟨e', h4, h5⟩ | ⟨rv, e', h4, h5⟩
      · refine .inl ⟨e', ?_, h5⟩
        simp only [forL, h1]
        rcases h2 with h2 | h2 <;> rw [h2] <;> exact h4
      · refine .inr ⟨rv, e', ?_, h5⟩
        simp only [forL, h1]
        rcases h2 with h2 | h2 <;> rw [h2] <;> exact h4
    · exact .inr ⟨rv, e2, by simp only [forL, h1, h2], h3⟩
/-- whichever way streets lead -/
def Con (st : List IP) (a b : Int) : Prop := Rch (st ++ st.map fun p => (p.2, p.1)) a b
theorem Con.symm {st : List IP} {a b : Int} (h : Con st a b) : Con st b a := by
  unfold Con at h ⊢
  induction h with
  | refl => exact .refl
  | @step b c _ hm ih =>
    refine Rch.trans (Rch.step .refl ?_) ih
    rcases List.mem_append.mp hm with z | z
    · exact List.mem_append_right _ (List.mem_map.mpr ⟨_, z, rfl⟩)
    · obtain ⟨p, hp, e⟩ := List.mem_map.mp z
      simp only [Prod.mk.injEq] at e
      refine List.mem_append_left _ ?_
      rw [← e.1, ← e.2]; exact hp
theorem Con.trans {st : List IP} {a b c : Int} (h : Con st a b) (h2 : Con st b c) : Con st a c := Rch.trans h h2
theorem Con.mono {st st' : List IP} {a b : Int} (h : Con st a b) (hs : ∀ p ∈ st, p ∈ st') : Con st' a b := by
  unfold Con at h ⊢
  induction h with
  | refl => exact .refl
  | step _ hm ih =>
    refine ih.step ?_
    rcases List.mem_append.mp hm with z | z
    · exact List.mem_append_left _ (hs _ z)
    · obtain ⟨p, hp, e⟩ := List.mem_map.mp z
      exact List.mem_append_right _ (List.mem_map.mpr ⟨p, hs _ hp, e⟩)
theorem con_edge {st : List IP} {p : IP} (h : p ∈ st) : Con st p.1 p.2 := Rch.step .refl (List.mem_append_left _ h)
theorem con_nil {a b : Int} : Con [] a b ↔ a = b := by
  constructor
  · intro h
    unfold Con at h
    induction h with
    | refl => rfl
    | step _ hm _ => cases hm
  · rintro rfl; exact .refl
theorem con_add {st : List IP} {p : IP} {i j : Int} : Con (st ++ [p]) i j ↔ Con st i j ∨ (Con st i p.1 ∧ Con st p.2 j) ∨ (Con st i p.2 ∧ Con st p.1 j) := by
  constructor
  · intro h
    unfold Con at h
    induction h with
    | refl => exact .inl .refl
    | @step b c _ hm ih =>
      have hm' : Con st b c ∨ (b = p.1 ∧ c = p.2) ∨ (b = p.2 ∧ c = p.1) := by
        rcases List.mem_append.mp hm with z | z
        · rcases List.mem_append.mp z with z | z
          · exact .inl (con_edge z)
          · rw [List.mem_singleton] at z
            right; left
            rw [← z]; exact ⟨rfl, rfl⟩
        · obtain ⟨q, hq, e⟩ := List.mem_map.mp z
          simp only [Prod.mk.injEq] at e
          rcases List.mem_append.mp hq with z | z
          · left
            have := (con_edge z).symm
            rw [e.1, e.2] at this; exact this
          · rw [List.mem_singleton] at z
            right; right
            rw [← z]; exact ⟨e.1.symm, e.2.symm⟩
      rcases hm' with hm' | ⟨rfl, rfl⟩ | ⟨rfl, rfl⟩
      · rcases ih with z | ⟨z, z2⟩ | ⟨z, z2⟩
        · exact .inl (z.trans hm')
        · exact .inr (.inl ⟨z, z2.trans hm'⟩)
        · exact .inr (.inr ⟨z, z2.trans hm'⟩)
      · rcases ih with z | ⟨z, z2⟩ | ⟨z, z2⟩
        · exact .inr (.inl ⟨z, .refl⟩)
        · exact .inr (.inl ⟨z, .refl⟩)
        · exact .inl z
      · rcases ih with z | ⟨z, z2⟩ | ⟨z, z2⟩
        · exact .inr (.inr ⟨z, .refl⟩)
        · exact .inl z
        · exact .inr (.inr ⟨z, .refl⟩)
  · have e : Con (st ++ [p]) p.1 p.2 := con_edge (List.mem_append_right _ (List.mem_singleton.mpr rfl))
    have up : ∀ {a b : Int}, Con st a b → Con (st ++ [p]) a b := fun h => h.mono fun q hq => List.mem_append_left _ hq
    rintro (h | ⟨h, h2⟩ | ⟨h, h2⟩)
    · exact up h
    · exact (up h).trans (e.trans (up h2))
    · exact (up h).trans (e.symm.trans (up h2))
end PV
namespace PV
open PySem PySem.Spec PyProof.Rows L2
theorem eqv_ints : ∀ xs ys : List Int, PyData.eqvAll (encI xs) (encI ys) = decide (xs = ys)
  | [], [] => by simp [encI, PyData.eqvAll]
  | x :: xs, [] => by simp [encI, PyData.eqvAll]
  | [], y :: ys => by simp [encI, PyData.eqvAll]
  | x :: xs, y :: ys => by
    have ih := eqv_ints xs ys
    show ((x == y) && PyData.eqvAll (encI xs) (encI ys)) = _
    rw [ih]
    by_cases h : x = y <;> by_cases h2 : xs = ys <;> simp [h, h2]
theorem eqv_pairs : ∀ xs ys : List IP, PyData.eqvAll (xs.map encP) (ys.map encP) = decide (xs = ys)
  | [], [] => by simp [PyData.eqvAll]
  | x :: xs, [] => by simp [PyData.eqvAll]
  | [], y :: ys => by simp [PyData.eqvAll]
  | x :: xs, y :: ys => by
    have ih := eqv_pairs xs ys
    show (((x.1 == y.1) && ((x.2 == y.2) && true)) && PyData.eqvAll (xs.map encP) (ys.map encP)) = _
    rw [ih]
    obtain ⟨a, b⟩ := x
    obtain ⟨c, d⟩ := y
    by_cases h : a = c <;> by_cases h1 : b = d <;> by_cases h2 : xs = ys <;> simp [h, h1, h2]
theorem shaped_pairs (st : List IP) : SeqAt.shaped (.list (st.map encP)) = true ∧ SeqAt.shaped (.tuple (st.map encP)) = true := by
  have h1 : PyData.canLayAll0 (st.map encP) = true := by
    induction st with
    | nil => rfl
    | cons x r ih => show (PyData.canLay0 (encP x) && PyData.canLayAll0 (r.map encP)) = true; rw [ih]; rfl
  have h2 : PyData.depthAll (st.map encP) ≤ 3 := by
    clear h1
    induction st with
    | nil => simp [PyData.depthAll]
    | cons x r ih =>
      simp only [List.map_cons, PyData.depthAll, encP, PyData.depth] at ih ⊢
      omega
  constructor <;> (unfold SeqAt.shaped; refine Bool.and_eq_true_iff.mpr ⟨by simp only [PyData.canLay0]; exact h1, decide_eq_true ?_⟩; simp only [PyData.depth]; omega)
theorem eqE_ints (xs ys : List Int) : gEq false (.list (encI xs)) (.list (encI ys)) = some (.sh (.bool (decide (xs = ys)))) := by
  show (if SeqAt.shaped (.list (encI xs)) = true ∧ SeqAt.shaped (.list (encI ys)) = true then some (Od.sh (.bool (PyData.eqvAll (encI xs) (encI ys)))) else none) = _
  rw [if_pos ⟨(shaped_ints xs).1, (shaped_ints ys).1⟩, eqv_ints]
theorem chain_sorted (st : List IP) (chain : List IP → Bool) (hc : ∀ l, chain l = true ↔ l.Pairwise fun a b => leP a b = true) : decide (st = st.mergeSort leP) = chain st := by
  rw [Bool.eq_iff_iff, decide_eq_true_eq, hc]
  constructor
  · intro h; rw [h]; exact sorted_pairs st
  · intro h; exact (List.mergeSort_of_pairwise h).symm
end PV
namespace PV
open PySem PySem.Spec PyProof.Rows L2
theorem sf_lcA {io : Bool} {vs : List Nat} {fi : Ev → Rs (List PyData)} {t : Tgt} {fa : Ev → Rs Rv} {e e1 : Ev} {ds : List PyData} (h : PyData → PyData) (hi : fi e = .ok ds e1) (hu : unowned e1 vs = true) (h0 : io = false ∨ 0 ∉ vs) (hz : ds.length ≤ line)
    (hs : ∀ d ∈ ds, ∃ e2, t d (wipeE e1 vs) = some e2 ∧ wipeE e2 vs = wipeE e1 vs ∧ shr io (fa e2) = .ok (.sh (h d)) e2) : Sf (fLc io vs fi t (fun e => .ok true e) fa) e (ds.map h) e1 := by
  have key : Fx (fLc io vs (fun e => .ok ds e) t (fun e => .ok true e) fa) e1 (ds.map h) := fx_lcA h rfl hu h0 hz hs
  unfold Sf
  have e2 : fLc io vs fi t (fun e => .ok true e) fa e = fLc io vs (fun e => .ok ds e) t (fun e => .ok true e) fa e1 := by
    unfold fLc
    rw [hi]
  rw [e2]
  exact key
/-- a name's own list is walked: it stands still from now on -/
theorem seq_own {io : Bool} {i : Nat} {e : Ev} {xs : List PyData} (hi : e.at i = .ow xs) (h0 : (io && i == 0) = false) : fSeq io (fVar i) e = .ok xs (e.set i (.sh (.list xs))) := by
  have hv : fVar i e = .ok (.sl i) e := by unfold fVar; rw [hi]
  unfold fSeq
  rw [hv]
  simp only [shr, h0, hi]
  rfl
end PV
namespace PV
open PySem PySem.Spec PyProof.Rows L2
/-- the length of what is shown, with room for a mark -/
def sw (d : PyData) : Nat := d.shown.length + 2
def sws : List PyData → Nat
  | [] => 0
  | d :: r => sw d + sws r
theorem sws_app : ∀ xs ys : List PyData, sws (xs ++ ys) = sws xs + sws ys
  | [], ys => by simp [sws]
  | x :: xs, ys => by rw [List.cons_append, sws, sws, sws_app xs ys]; omega
theorem sws_mem : ∀ {xs : List PyData} {x : PyData}, x ∈ xs → sw x ≤ sws xs
  | y :: ys, x, h => by
    rw [sws]
    rcases List.mem_cons.mp h with rfl | h
    · omega
    · have := sws_mem h; omega
theorem sws_sub : ∀ {xs ys : List PyData}, xs.Sublist ys → sws xs ≤ sws ys
  | _, _, .slnil => Nat.le_refl _
  | _, _, .cons a h => by have := sws_sub h; rw [sws]; omega
  | _, _, .cons₂ a h => by have := sws_sub h; rw [sws, sws]; omega
theorem sws_rev (xs : List PyData) : sws xs.reverse = sws xs := by
  induction xs with
  | nil => rfl
  | cons x r ih => rw [List.reverse_cons, sws_app, ih, sws, sws, sws]; omega
theorem piled_sws (xs : List PyData) : piled (PyData.shownAll xs) = sws xs := by
  induction xs with
  | nil => rfl
  | cons x r ih =>
    simp only [PyData.shownAll, sws, sw, ← ih]
    simp [piled]
end PV
namespace PV
open PySem PySem.Spec PyProof.Rows L2
theorem join_le (ts : List Str) : (Str.join ", " ts).length ≤ piled ts := by
  by_cases h : ts = []
  · subst h; exact Nat.le_refl _
  · have := join_length_add ts h; omega
theorem shown_tup (xs : List PyData) : (PyData.tuple xs).shown.length ≤ sws xs + 3 := by
  have h : (PyData.tuple xs).shown = tupleText (PyData.shownAll xs) := by simp only [PyData.shown]
  rw [h]
  unfold tupleText
  rw [strLen_append, strLen_append]
  have := join_le (PyData.shownAll xs)
  rw [piled_sws] at this
  have e1 : (("(" : String) : Str).length = 1 := rfl
  split
  · have e2 : ((",)" : String) : Str).length = 2 := rfl
    omega
  · have e2 : ((")" : String) : Str).length = 1 := rfl
    omega
theorem shown_list (xs : List PyData) : (PyData.list xs).shown.length ≤ sws xs + 2 := by
  have h : (PyData.list xs).shown = listText (PyData.shownAll xs) := by simp only [PyData.shown]
  rw [h]
  have key : ∀ (ts : List Str) (k : Nat) (acc : Str), (textFrom k acc ts).length ≤ acc.length + piled ts := by
    intro ts
    induction ts with
    | nil => intro k acc; show acc.length ≤ _; simp [piled]
    | cons t r ih =>
      intro k acc
      have h1 := ih (k + 1) (acc ++ (if k > 0 then ", " else "" : String) ++ t)
      have e : (acc ++ (if k > 0 then ", " else "" : String) ++ t).length = acc.length + (if k > 0 then 2 else 0) + t.length := by
        rw [strLen_append, strLen_append]
        congr 2
        split <;> rfl
      rw [e] at h1
      rw [piled_cons]
      show (textFrom (k + 1) (acc ++ (if k > 0 then ", " else "" : String) ++ t) r).length ≤ _
      have h2 : (if k > 0 then 2 else 0) ≤ 2 := by split <;> omega
      omega
  unfold listText
  rw [strLen_append]
  have := key (PyData.shownAll xs) 0 "["
  rw [piled_sws] at this
  have e1 : (("[" : String) : Str).length = 1 := rfl
  have e2 : (("]" : String) : Str).length = 1 := rfl
  omega
/-- data that repr shows at once -/
structure Ok (n : Nat) (d : PyData) : Prop where
  plain : plainD d = true
  show_ : d.showable = true
  deep : d.depth ≤ 30
  len : sw d ≤ n
theorem repr_ok {n : Nat} {d : PyData} (h : Ok n d) (hn : n ≤ 100000) : gRepr [d] = some (.sh (.str d.shown)) := by
  show (if plainD d = true ∧ d.showable = true ∧ d.depth ≤ 40 ∧ d.shown.length ≤ line then some (Od.sh (.str d.shown)) else none) = _
  have := h.len
  unfold sw at this
  rw [if_pos ⟨h.plain, h.show_, Nat.le_trans h.deep (by decide), le_line (by omega)⟩]
end PV
namespace PV
open PySem PySem.Spec PyProof.Rows L2
theorem sok_app (a b : Str) : PyData.strOk (a ++ b) = (PyData.strOk a && PyData.strOk b) := by
  show (a.cps ++ b.cps).all _ = _
  rw [Array.all_append]; rfl
theorem sok_lit (s : String) : PyData.strOk (Str.ofString s) = true := by
  rw [Str.ofString_eq_toList]
  unfold PyData.strOk
  simp only [List.all_toArray, List.all_map, List.all_eq_true, Function.comp, decide_eq_true_eq]
  intro c _
  have := c.valid
  rcases this with h | ⟨_, h⟩ <;> (show c.val.toNat < _; omega)
theorem sok_join : ∀ ts : List Str, (∀ t ∈ ts, PyData.strOk t = true) → PyData.strOk (Str.join ", " ts) = true
  | [], _ => by decide +kernel
  | [x], h => h x List.mem_cons_self
  | x :: y :: r, h => by
    show PyData.strOk (x ++ ", " ++ Str.join ", " (y :: r)) = true
    rw [sok_app, sok_app, h x List.mem_cons_self, sok_join (y :: r) fun t ht => h t (List.mem_cons_of_mem _ ht), sok_lit]
    rfl
theorem sok_from : ∀ (ts : List Str) (k : Nat) (acc : Str), PyData.strOk acc = true → (∀ t ∈ ts, PyData.strOk t = true) → PyData.strOk (textFrom k acc ts) = true
  | [], _, acc, h, _ => h
  | t :: r, k, acc, h, h2 => by
    refine sok_from r (k + 1) _ ?_ fun x hx => h2 x (List.mem_cons_of_mem _ hx)
    rw [sok_app, sok_app, h, h2 t List.mem_cons_self]
    split <;> (rw [sok_lit]; rfl)
/-- what is small: numbers within b, texts and dicts as told, weight -/
def smL (x : Str) : Bool := PyData.strOk x && PyData.strOk (reprText x) && decide ((reprText x).length ≤ 30)
mutual
def smD (b : Nat) : PyData → Bool
  | .none => true
  | .bool _ => true
  | .int i => decide (i.natAbs ≤ b)
  | .str x => smL x
  | .list xs => smA b xs
  | .tuple xs => smA b xs
  | .dict es => es.isEmpty
def smA (b : Nat) : List PyData → Bool
  | [] => true
  | x :: xs => smD b x && smA b xs
end
mutual
def wt : PyData → Nat
  | .list xs => wts xs + 6
  | .tuple xs => wts xs + 6
  | _ => 32
def wts : List PyData → Nat
  | [] => 0
  | x :: xs => wt x + wts xs
end
theorem smA_mem {b : Nat} : ∀ {xs : List PyData}, smA b xs = true ↔ ∀ x ∈ xs, smD b x = true
  | [] => ⟨fun _ _ h => (nomatch h), fun _ => rfl⟩
  | y :: ys => by
    simp only [smA, Bool.and_eq_true, List.forall_mem_cons, smA_mem (xs := ys)]
theorem wts_app : ∀ xs ys : List PyData, wts (xs ++ ys) = wts xs + wts ys
  | [], ys => by simp [wts]
  | x :: xs, ys => by rw [List.cons_append, wts, wts, wts_app xs ys]; omega
theorem wts_mem : ∀ {xs : List PyData} {x : PyData}, x ∈ xs → wt x ≤ wts xs
  | y :: ys, x, h => by
    rw [wts]
    rcases List.mem_cons.mp h with rfl | h
    · omega
    · have := wts_mem h; omega
theorem wts_rev (xs : List PyData) : wts xs.reverse = wts xs := by
  induction xs with
  | nil => rfl
  | cons x r ih => rw [List.reverse_cons, wts_app, ih, wts, wts, wts]; omega
theorem wt_pos : ∀ d : PyData, 6 ≤ wt d
  | .none | .bool _ | .int _ | .str _ | .dict _ => by simp only [wt]; decide
  | .list xs | .tuple xs => by simp only [wt]; omega
theorem wts_len : ∀ xs : List PyData, xs.length ≤ wts xs
  | [] => Nat.zero_le _
  | x :: r => by
    rw [wts, List.length_cons]
    have := wts_len r
    have := wt_pos x
    omega
mutual
theorem sm_plain {b : Nat} : ∀ d : PyData, smD b d = true → plainD d = true
  | .none, _ => rfl
  | .bool _, _ => rfl
  | .int _, _ => rfl
  | .str _, _ => rfl
  | .list xs, h => sm_plainA xs (by simpa [smD] using h)
  | .tuple xs, h => sm_plainA xs (by simpa [smD] using h)
  | .dict es, h => by
    simp only [smD, List.isEmpty_iff] at h
    subst h; rfl
theorem sm_plainA {b : Nat} : ∀ xs : List PyData, smA b xs = true → plainA xs = true
  | [], _ => rfl
  | x :: xs, h => by
    simp only [smA, Bool.and_eq_true] at h
    show (plainD x && plainA xs) = true
    rw [sm_plain x h.1, sm_plainA xs h.2]; rfl
end
theorem int_shown {i : Int} {b : Nat} (h : i.natAbs ≤ b) (hb : b < 10 ^ 20) : (Str.ofString (toString i)).length ≤ 21 ∧ PyData.strOk (Str.ofString (toString i)) = true := by
  refine ⟨?_, sok_lit _⟩
  have := PySem.int_text_length_le10 (a := i) (k := 20) (by decide) (by omega)
  rw [Str.ofString_eq_toList]
  have e : (⟨((toString i).toList.map Char.toNat).toArray⟩ : Str).length = (toString i).length := by
    simp only [Str.length, List.size_toArray, List.length_map, String.length_toList]
  omega
theorem int_showable {i : Int} {b : Nat} (h : i.natAbs ≤ b) (hb : b < 10 ^ 20) : (PyData.int i).showable = true := by
  rw [PyData.showable.eq_4, decide_eq_true_eq]
  by_cases h0 : i.natAbs = 0
  · rw [h0]; decide
  · rw [Nat.log2_lt h0]
    exact Nat.lt_of_lt_of_le (by omega : i.natAbs < 10 ^ 20) (by decide +kernel)
/-- what repr shows of small data -/
structure Shw (d : PyData) : Prop where
  show_ : d.showable = true
  len : d.shown.length + 2 ≤ wt d
  sok : PyData.strOk d.shown = true
structure ShwA (ds : List PyData) : Prop where
  show_ : PyData.showableAll ds = true
  len : sws ds ≤ wts ds
  sok : ∀ t ∈ PyData.shownAll ds, PyData.strOk t = true
mutual
theorem sm_shw {b : Nat} (hb : b < 10 ^ 20) : ∀ d : PyData, smD b d = true → Shw d
  | .none, _ => ⟨PyData.showable.eq_1, by rw [PyData.shown.eq_1]; decide, by rw [PyData.shown.eq_1]; exact sok_lit _⟩
  | .bool x, _ => by
    refine ⟨PyData.showable.eq_2 _, ?_, ?_⟩ <;> rw [PyData.shown.eq_2] <;> cases x
    · decide
    · decide
    · exact sok_lit _
    · exact sok_lit _
  | .int i, h => by
    simp only [smD, decide_eq_true_eq] at h
    obtain ⟨h1, h2⟩ := int_shown h hb
    refine ⟨int_showable h hb, ?_, ?_⟩ <;> rw [PyData.shown.eq_3]
    · simp only [wt]; omega
    · exact h2
  | .str x, h => by
    simp only [smD, smL, Bool.and_eq_true, decide_eq_true_eq] at h
    refine ⟨PyData.showable.eq_3 _, ?_, ?_⟩ <;> rw [PyData.shown.eq_4]
    · simp only [wt]; omega
    · exact h.1.2
  | .list xs, h => by
    obtain ⟨h1, h2, h3⟩ := sm_shwA hb xs (by simpa [smD] using h)
    refine ⟨by rw [PyData.showable.eq_5]; exact h1, ?_, ?_⟩
    · have := shown_list xs
      simp only [wt]; omega
    · rw [PyData.shown.eq_5]
      unfold listText
      rw [sok_app, sok_from _ _ _ (sok_lit _) h3, sok_lit]; rfl
  | .tuple xs, h => by
    obtain ⟨h1, h2, h3⟩ := sm_shwA hb xs (by simpa [smD] using h)
    refine ⟨by rw [PyData.showable.eq_6]; exact h1, ?_, ?_⟩
    · have := shown_tup xs
      simp only [wt]; omega
    · rw [PyData.shown.eq_6]
      unfold tupleText
      rw [sok_app, sok_app, sok_join _ h3, sok_lit]
      split <;> (rw [sok_lit]; rfl)
  | .dict es, h => by
    simp only [smD, List.isEmpty_iff] at h
    subst h
    refine ⟨by rw [PyData.showable.eq_7]; rfl, ?_, ?_⟩ <;> rw [PyData.shown.eq_7] <;> decide +kernel
theorem sm_shwA {b : Nat} (hb : b < 10 ^ 20) : ∀ ds : List PyData, smA b ds = true → ShwA ds
  | [], _ => ⟨rfl, Nat.le_refl _, fun t h => (nomatch h)⟩
  | x :: xs, h => by
    simp only [smA, Bool.and_eq_true] at h
    have h1 := sm_shw hb x h.1
    have h2 := sm_shwA hb xs h.2
    refine ⟨?_, ?_, ?_⟩
    · show (x.showable && PyData.showableAll xs) = true
      rw [h1.show_, h2.show_]; rfl
    · have := h1.len
      have := h2.len
      rw [sws, wts]
      unfold sw
      omega
    · intro t ht
      rcases List.mem_cons.mp (show t ∈ x.shown :: PyData.shownAll xs from ht) with rfl | h
      · exact h1.sok
      · exact h2.sok t h
end
/-- small data -/
structure Sm (b w k : Nat) (d : PyData) : Prop where
  sm : smD b d = true
  wt : wt d ≤ w
  dp : d.depth ≤ k
mutual
theorem smD_mono {b b' : Nat} (hb : b ≤ b') : ∀ d : PyData, smD b d = true → smD b' d = true
  | .none, _ => rfl
  | .bool _, _ => rfl
  | .int i, h => by simp only [smD, decide_eq_true_eq] at h ⊢; omega
  | .str _, h => h
  | .list xs, h => smA_mono hb xs h
  | .tuple xs, h => smA_mono hb xs h
  | .dict _, h => h
theorem smA_mono {b b' : Nat} (hb : b ≤ b') : ∀ ds : List PyData, smA b ds = true → smA b' ds = true
  | [], _ => rfl
  | x :: xs, h => by
    simp only [smA, Bool.and_eq_true] at h ⊢
    exact ⟨smD_mono hb x h.1, smA_mono hb xs h.2⟩
end
theorem Sm.mono {b w k b' w' k' : Nat} {d : PyData} (h : Sm b w k d) (hb : b ≤ b') (hw : w ≤ w') (hk : k ≤ k') : Sm b' w' k' d := ⟨smD_mono hb d h.sm, Nat.le_trans h.wt hw, Nat.le_trans h.dp hk⟩
theorem Sm.plain {b w k : Nat} {d : PyData} (h : Sm b w k d) : plainD d = true := sm_plain d h.sm
theorem repr_sm {b w k : Nat} {d : PyData} (h : Sm b w k d) (hb : b < 10 ^ 20) (hw : w ≤ 100000) (hk : k ≤ 40) : gRepr [d] = some (.sh (.str d.shown)) := by
  have h1 := sm_shw hb d h.sm
  have := h1.len
  have := h.wt
  show (if plainD d = true ∧ d.showable = true ∧ d.depth ≤ 40 ∧ d.shown.length ≤ line then some (Od.sh (.str d.shown)) else none) = _
  rw [if_pos ⟨h.plain, h1.show_, Nat.le_trans h.dp hk, le_line (by omega)⟩]
theorem ne_str {x y : Str} (hx : PyData.strOk x = true) (hy : PyData.strOk y = true) : gEq true (.str x) (.str y) = some (.sh (.bool (!(x == y)))) := by
  show (if SeqAt.shaped (.str x) = true ∧ SeqAt.shaped (.str y) = true then some (Od.sh (.bool (!PyData.eqv (.str x) (.str y)))) else none) = _
  rw [if_pos]
  · rfl
  · constructor
    · exact Bool.and_eq_true_iff.mpr ⟨hx, rfl⟩
    · exact Bool.and_eq_true_iff.mpr ⟨hy, rfl⟩
theorem repr_bool (x : Bool) : gRepr [.bool x] = some (.sh (.str (PyData.bool x).shown)) ∧ PyData.strOk (PyData.bool x).shown = true := by
  have h : Sm 0 32 0 (.bool x) := ⟨rfl, Nat.le_refl _, Nat.le_of_eq (by simp only [PyData.depth])⟩
  exact ⟨repr_sm h (by decide) (by decide) (by decide), (sm_shw (b := 0) (by decide) _ h.sm).sok⟩
end PV
namespace PV
open PySem PySem.Spec PyProof.Rows L2
section
variable {e e1 e2 : Ev} {fa fb fc : Ev → Rs Rv} {ga gb : Ev → Rs Bool} {fl : Ev → Rs (List Rv)} {a b c d : PyData} {ds : List PyData} {io : Bool} {f g : Ev → Fl}
theorem tb_sx {q : Bool} (h : Sx fa e (.bool q) e1) : fTB fa e = .ok q e1 := by unfold fTB; rw [h]; rfl
theorem andb_t (h : Bt ga e true) : fAndB ga gb e = gb e := by unfold fAndB; rw [h]; rfl
theorem andb_f (h : Bt ga e false) : Bt (fAndB ga gb) e false := by unfold Bt fAndB; rw [h]; rfl
theorem ifs_tx (h : ga e = .ok true e1) : fIfS ga f g e = f e1 := by unfold fIfS; rw [h]
theorem ifs_fx (h : ga e = .ok false e1) : fIfS ga f g e = g e1 := by unfold fIfS; rw [h]
theorem sl_shr (h : shr io (fa e) = .ok (.sh d) e1) (hr : Sl' fl e1 ds e2) : Sl' (fCons (fun e => shr io (fa e)) fl) e (d :: ds) e2 := by
  unfold Sl' fCons
  show (stab (shr io (fa e))).bind _ = _
  rw [h]
  show (fl e1).bind _ = _
  rw [hr]; rfl
theorem cut_to (ds : List PyData) (a : Nat) : cutD ds none (some (a : Int)) = ds.take a := by
  unfold cutD
  rw [HT.sIx_none, HT.sIx_nat, List.drop_zero, Nat.sub_zero]
  by_cases h : a ≤ ds.length
  · rw [Nat.min_eq_left h]
  · rw [Nat.min_eq_right (by omega), List.take_of_length_le (Nat.le_refl _), List.take_of_length_le (by omega)]
theorem cut_from (ds : List PyData) (a : Nat) : cutD ds (some (a : Int)) none = ds.drop a := by
  unfold cutD
  rw [HT.sIx_none, HT.sIx_nat]
  by_cases h : a ≤ ds.length
  · rw [Nat.min_eq_left h]
    exact List.take_of_length_le (by simp)
  · rw [Nat.min_eq_right (by omega), List.drop_eq_nil_of_le (Nat.le_refl _), List.drop_eq_nil_of_le (by omega)]; exact List.take_nil
theorem px_to {ds : List PyData} {k : Nat} (h : Vl fa e (.tuple ds)) (hk : Vl fb e (.int (k : Int))) : Px (fSl fa fNoP (fPart fb)) e (.tuple (ds.take k)) := px_sl h pt_no (pt_some hk) (by rw [← cut_to]; rfl)
theorem px_from {ds : List PyData} {k : Nat} (h : Vl fa e (.tuple ds)) (hk : Vl fb e (.int (k : Int))) : Px (fSl fa (fPart fb) fNoP) e (.tuple (ds.drop k)) := px_sl h (pt_some hk) pt_no (by rw [← cut_from]; rfl)
theorem px_cat {xs ys : List PyData} (ha : Px fa e (.tuple xs)) (hb : Px fb e (.tuple ys)) (hz : xs.length + ys.length ≤ 100000) : Px (fBin gAdd fa fb) e (.tuple (xs ++ ys)) := px_bin ha.vl hb.vl (by
  show (if xs.length + ys.length ≤ line then some (Od.sh (.tuple (xs ++ ys))) else none) = _
  rw [if_pos (le_line hz)])
theorem gAdd_tup {xs ys : List PyData} (hz : xs.length + ys.length ≤ 100000) : gAdd (.tuple xs) (.tuple ys) = some (.sh (.tuple (xs ++ ys))) := by
  show (if xs.length + ys.length ≤ line then some (Od.sh (.tuple (xs ++ ys))) else none) = _
  rw [if_pos (le_line hz)]
/-- two at once -/
theorem pars2 {i j : Nat} {x y : PyData} (ha : Sx fa e x e1) (hb : Sx fb e1 y e2) (hi : (io && i == 0) = false) (hj : (io && j == 0) = false) (li : i < e2.length) (lj : j < e2.length) : fPars io [i, j] [fa, fb] e = .nx ((e2.set i (.sh x)).set j (.sh y)) := by
  unfold fPars evR
  rw [ha]
  simp only [Rs.bind]
  unfold evR
  rw [hb]
  simp only [Rs.bind, evR, putNs]
  rw [put_ok hi li rfl]
  simp only [Option.bind_some]
  rw [put_ok hj (by rw [List.length_set]; exact lj) rfl]
  rfl
theorem eqE_tup0 (xs : List PyData) : gEqE (.tuple xs) (.tuple []) = some (.sh (.bool xs.isEmpty)) := by
  unfold gEqE
  unfold gEq
  split
  · rename_i o h
    split at h
    · cases h
      cases xs <;> simp [PyData.eqv, PyData.eqvAll]
    · cases h
  · rfl
end
end PV
namespace PV
open PySem PySem.Spec PyProof.Rows L2
theorem while_st {S : Type} {mk : S → Ev} {c : Ev → Rs Bool} {body : Ev → Fl} (I : S → Prop) (μ : S → Nat) (hs : ∀ s, I s → ∃ b, c (mk s) = .ok b (mk s) ∧ (b = true → ∃ s2, body (mk s) = .nx (mk s2) ∧ I s2 ∧ μ s2 < μ s)) : ∀ {n : Nat} {s : S}, I s → μ s < n → ∃ s', whileL c body n (mk s) = .nx (mk s') ∧ I s' ∧ c (mk s') = .ok false (mk s')
  | 0, s, _, h => absurd h (Nat.not_lt_zero _)
  | n + 1, s, hI, h => by
    obtain ⟨b, h1, h2⟩ := hs s hI
    cases b with
    | false => exact ⟨s, by simp only [whileL, h1], hI, h1⟩
    | true =>
      obtain ⟨s2, h3, h4, h5⟩ := h2 rfl
      obtain ⟨s', h6, h7, h8⟩ := while_st I μ hs (n := n) h4 (by omega)
      refine ⟨s', ?_, h7, h8⟩
      simp only [whileL, h1]
      rw [h3]
      exact h6
/-- found and waiting, on the way -/
structure Fw (ps : List IP) (a : Int) (found waiting : List Int) : Prop where
  nd : found.Nodup
  wf : ∀ x ∈ waiting, x ∈ found
  af : a ∈ found
  rch : ∀ x ∈ found, Rch ps a x
  sub : ∀ x ∈ found, x ∈ a :: ps.map (·.2)
  wl : waiting.length ≤ found.length
theorem Fw.len {ps : List IP} {a : Int} {found waiting : List Int} (h : Fw ps a found waiting) : found.length ≤ ps.length + 1 := by
  have := nodup_len h.nd h.sub
  simpa using this
theorem Fw.add {ps : List IP} {a : Int} {f w : List Int} {q : IP} (h : Fw ps a f w) (hq : q ∈ ps) (h1 : q.1 ∈ f) (h2 : q.2 ∉ f) : Fw ps a (f ++ [q.2]) (w ++ [q.2]) := by
  refine ⟨?_, fun x hx => ?_, List.mem_append_left _ h.af, fun x hx => ?_, fun x hx => ?_, by have := h.wl; simp; omega⟩
  · rw [List.nodup_append]
    exact ⟨h.nd, by simp, fun x hx y hy z => by rw [List.mem_singleton] at hy; rw [z, hy] at hx; exact h2 hx⟩
  · exact (List.mem_append.mp hx).elim (fun z => List.mem_append_left _ (h.wf x z)) (fun z => List.mem_append_right _ z)
  · refine (List.mem_append.mp hx).elim (h.rch x) fun z => ?_
    rw [List.mem_singleton] at z
    subst z
    exact (h.rch _ h1).step hq
  · refine (List.mem_append.mp hx).elim (h.sub x) fun z => ?_
    rw [List.mem_singleton] at z
    subst z
    exact List.mem_cons_of_mem _ (List.mem_map.mpr ⟨q, hq, rfl⟩)
structure ClS (Ξ : Type) where
  f : List Int
  w : List Int
  h : Sl
  x : Ξ
/-- one round: the paths are gone through for the town that was taken -/
structure Rd (ps : List IP) (a here : Int) (f w f' w' : List Int) (done : List IP) : Prop where
  fw : Fw ps a f' w'
  old : ∀ x ∈ f, x ∈ f'
  cl : ∀ x ∈ f', x ∈ w' ∨ x = here ∨ ∀ y, (x, y) ∈ ps → y ∈ f'
  got : ∀ q ∈ done, q.1 = here → q.2 ∈ f'
  l1 : f.length + w'.length ≤ w.length + f'.length
  l2 : f.length ≤ f'.length
theorem clos {Ξ : Type} {mk : ClS Ξ → Ev} {c : Ev → Rs Bool} {pop body : Ev → Fl} {t : Tgt} {fi : Ev → Rs (List PyData)} {ps : List IP} {ds : List PyData} {a : Int} {h0 : Sl} {x0 : Ξ} (hps : ps.length ≤ 1000) (hds : ds.length = ps.length)
    (hc : ∀ f w h x, c (mk ⟨f, w, h, x⟩) = .ok (!w.isEmpty) (mk ⟨f, w, h, x⟩))
    (hp : ∀ f w h x here, pop (mk ⟨f, w ++ [here], h, x⟩) = .nx (mk ⟨f, w, .sh (.int here), x⟩))
    (hi : ∀ f w h x, fi (mk ⟨f, w, h, x⟩) = .ok ds (mk ⟨f, w, h, x⟩))
    (hb : ∀ f w x here (j : Nat) (hj : j < ps.length) (hj' : j < ds.length), f.length < 100000 → w.length < 100000 → ∃ e1 x', t ds[j] (mk ⟨f, w, .sh (.int here), x⟩) = some e1 ∧ body e1 = .nx (mk (if ps[j].1 = here ∧ ps[j].2 ∉ f then ⟨f ++ [ps[j].2], w ++ [ps[j].2], .sh (.int here), x'⟩ else ⟨f, w, .sh (.int here), x'⟩))) :
    ∃ f h x, whileL c (fSq pop (fFor t fi body)) 4096 (mk ⟨[a], [a], h0, x0⟩) = .nx (mk ⟨f, [], h, x⟩) ∧ f.Nodup ∧ f.length ≤ ps.length + 1 ∧ ∀ y, y ∈ f ↔ Rch ps a y := by
  obtain ⟨⟨f, w, h, x⟩, w1, ⟨fw, cl⟩, w2⟩ := while_st (mk := mk) (c := c) (body := fSq pop (fFor t fi body)) (fun s => Fw ps a s.f s.w ∧ ∀ x ∈ s.f, x ∈ s.w ∨ ∀ y, (x, y) ∈ ps → y ∈ s.f)
    (fun s => 2 * (ps.length + 1 - s.f.length) + s.w.length) (by
      rintro ⟨f, w, h, x⟩ ⟨fw, cl⟩
      refine ⟨_, hc f w h x, fun hne => ?_⟩
      obtain ⟨here, w, rfl⟩ : ∃ here w0, w = w0 ++ [here] := by
        by_cases hw0 : w = []
        · subst hw0; exact absurd hne (by simp)
        · exact ⟨w.getLast hw0, w.dropLast, (List.dropLast_concat_getLast hw0).symm⟩
      obtain ⟨e', g1, f', w', x', rfl, rd⟩ := for_inv (t := t) (fi := fi) (body := body) (DS := ds) (e := mk ⟨f, w, .sh (.int here), x⟩) (e1 := mk ⟨f, w, .sh (.int here), x⟩)
        (fun done e' => ∃ f' w' x', e' = mk ⟨f', w', .sh (.int here), x'⟩ ∧ Rd ps a here f w f' w' (ps.take done.length))
        (hi _ _ _ _) ⟨f, w, x, rfl, ⟨⟨fw.nd, fun y hy => fw.wf y (List.mem_append_left _ hy), fw.af, fw.rch, fw.sub, by have := fw.wl; simp at this; omega⟩, fun y hy => hy, fun y hy => by
          rcases cl y hy with z | z
          · rcases List.mem_append.mp z with z | z
            · exact .inl z
            · exact .inr (.inl (List.mem_singleton.mp z))
          · exact .inr (.inr z), fun q hq => by simp at hq, by omega, Nat.le_refl _⟩⟩ (by
          rintro done d rest e hq ⟨f', w', x', rfl, rd⟩
          have hl := congrArg List.length hq
          simp at hl
          have hj' : done.length < ds.length := by omega
          have hj : done.length < ps.length := by omega
          have hd : ds[done.length] = d := by simp only [← hq]; simp
          have hf := rd.fw.len
          have hw := rd.fw.wl
          obtain ⟨e1, x2, y1, y2⟩ := hb f' w' x' here done.length hj hj' (by omega) (by omega)
          rw [hd] at y1
          have htk : ps.take (done ++ [d]).length = ps.take done.length ++ [ps[done.length]] := by rw [List.length_append, List.length_singleton, List.take_succ_eq_append_getElem hj]
          by_cases hcq : ps[done.length].1 = here ∧ ps[done.length].2 ∉ f'
          · rw [if_pos hcq] at y2
            refine ⟨e1, _, y1, .inl y2, _, _, _, rfl, ?_⟩
            rw [htk]
            have hh : here ∈ f' := rd.old here (fw.wf here (List.mem_append_right _ (List.mem_singleton.mpr rfl)))
            refine ⟨rd.fw.add (List.getElem_mem hj) (by rw [hcq.1]; exact hh) hcq.2, fun y hy => List.mem_append_left _ (rd.old y hy), fun y hy => ?_, fun q hq2 h1 => ?_, by have := rd.l1; simp; omega, by have := rd.l2; simp; omega⟩
            · rcases List.mem_append.mp hy with z | z
              · rcases rd.cl y z with z | z | z
                · exact .inl (List.mem_append_left _ z)
                · exact .inr (.inl z)
                · exact .inr (.inr fun v hv => List.mem_append_left _ (z v hv))
              · exact .inl (List.mem_append_right _ z)
            · rcases List.mem_append.mp hq2 with z | z
              · exact List.mem_append_left _ (rd.got q z h1)
              · rw [List.mem_singleton.mp z]
                exact List.mem_append_right _ (List.mem_singleton.mpr rfl)
          · rw [if_neg hcq] at y2
            refine ⟨e1, _, y1, .inl y2, _, _, _, rfl, ?_⟩
            rw [htk]
            refine ⟨rd.fw, rd.old, rd.cl, fun q hq2 h1 => ?_, rd.l1, rd.l2⟩
            rcases List.mem_append.mp hq2 with z | z
            · exact rd.got q z h1
            · rw [List.mem_singleton.mp z] at h1 ⊢
              by_cases h3 : ps[done.length].2 ∈ f'
              · exact h3
              · exact absurd ⟨h1, h3⟩ hcq)
      refine ⟨⟨f', w', .sh (.int here), x'⟩, (sq_nx (hp _ _ _ _ _)).trans g1, ⟨rd.fw, fun y hy => ?_⟩, ?_⟩
      · rcases rd.cl y hy with z | z | z
        · exact .inl z
        · refine .inr fun v hv => rd.got (y, v) ?_ z
          rw [hds, List.take_length]
          exact hv
        · exact .inr z
      · have h1 := rd.fw.len
        have h2 := rd.l1
        have h3 := rd.l2
        show 2 * (ps.length + 1 - f'.length) + w'.length < 2 * (ps.length + 1 - f.length) + (w ++ [here]).length
        simp only [List.length_append, List.length_singleton]
        omega) (n := 4096) (s := ⟨[a], [a], h0, x0⟩) ⟨⟨by simp, fun x h => h, by simp, fun x hx => by rw [List.mem_singleton.mp hx]; exact .refl, fun x hx => by rw [List.mem_singleton.mp hx]; exact List.mem_cons_self, Nat.le_refl _⟩, fun x hx => .inl hx⟩ (by
        show 2 * (ps.length + 1 - 1) + 1 < 4096
        omega)
  have hw : w = [] := by
    rw [hc] at w2
    have := (Rs.ok.inj w2).1
    cases w with
    | nil => rfl
    | cons x r => simp at this
  subst hw
  refine ⟨f, h, x, w1, fw.nd, fw.len, fun y => ⟨fw.rch y, fun hr => ?_⟩⟩
  induction hr with
  | refl => exact fw.af
  | step _ hm ih =>
    rcases cl _ ih with z | z
    · cases z
    · exact z _ hm
theorem sx_cal1F {g : List PyData → Option Od} {fa : Ev → Rs Rv} {e e1 : Ev} {ds : List PyData} {r : PyData} (h : fa e = .ok (.fl ds) e1) (hg : g [.list ds] = some (.sh r)) : Sx (fCal g (fCons fa fNil)) e r e1 := by
  unfold Sx fCal fCons
  rw [h]
  show (match ((resL e1 [.sh (.list ds)]).bind g) with | some o => Rs.ok o.rv e1 | none => .bad) = _
  simp only [resL, res, Option.bind_some, hg, Od.rv]
theorem px_mthR {g : List PyData → List PyData → Option PyData} {fl : Ev → Rs (List Rv)} {e : Ev} {i : Nat} {ds xs : List PyData} {d : PyData} (hi : lsAt (e.at i) = some ds) (h : Lv fl e xs) (hg : g ds xs = some d) : Px (fMthR i g fl) e d := by
  obtain ⟨rvs, h1, h2⟩ := h
  unfold Px fMthR
  rw [hi]
  simp only
  rw [h1]
  simp only [Rs.bind, hi, h2, hg]
theorem sf_binS {g : PyData → PyData → Option Od} {fb : Ev → Rs Rv} {e e2 : Ev} {i : Nat} {zs xs ds : List PyData} (h0 : ∃ ys, e.at i = .ow ys) (hb : Sf fb e xs e2) (h2 : e2.at i = .ow zs) (hg : g (.list zs) (.list xs) = some (.fl ds)) : Sf (fBin g (fVar i) fb) e ds e2 := by
  obtain ⟨ys, h0⟩ := h0
  have hv : fVar i e = .ok (.sl i) e := by unfold fVar; rw [h0]
  unfold Sf fBin
  rw [hv]
  show (fb e).bind _ = _
  rw [hb]
  show bin2 g (.sl i) (.fl xs) e2 = _
  unfold bin2
  simp only [res, h2]
  rw [hg]; rfl
theorem sf_binF {g : PyData → PyData → Option Od} {fa fb : Ev → Rs Rv} {e e1 e2 : Ev} {as bs ds : List PyData} (ha : Sf fa e as e1) (hb : Sf fb e1 bs e2) (hg : g (.list as) (.list bs) = some (.fl ds)) : Sf (fBin g fa fb) e ds e2 := by
  unfold Sf fBin
  rw [ha]
  show (fb e1).bind _ = _
  rw [hb]
  show outR (g (.list as) (.list bs)) e2 = _
  rw [hg]; rfl
theorem gAdd_lst {xs ys : List PyData} (hz : xs.length + ys.length ≤ 100000) : gAdd (.list xs) (.list ys) = some (.fl (xs ++ ys)) := by
  show (if xs.length + ys.length ≤ line then some (Od.fl (xs ++ ys)) else none) = _
  rw [if_pos (le_line hz)]
theorem seq_sf {io : Bool} {fa : Ev → Rs Rv} {e e1 : Ev} {ds : List PyData} (h : Sf fa e ds e1) : fSeq io fa e = .ok ds e1 := by
  unfold fSeq
  rw [h]; rfl
theorem rng_get {n j : Nat} (h : j < (rngD 0 n).length) : (rngD 0 n)[j] = .int (j : Int) := by
  simp [rngD]
theorem parsF2 {io : Bool} {fa fb : Ev → Rs Rv} {e e1 e2 : Ev} {i j : Nat} {x y : List PyData} (ha : Sf fa e x e1) (hb : Sf fb e1 y e2) (hi : (io && i == 0) = false) (hj : (io && j == 0) = false) (li : i < e2.length) (lj : j < e2.length) : fPars io [i, j] [fa, fb] e = .nx ((e2.set i (.ow x)).set j (.ow y)) := by
  unfold fPars evR
  rw [ha]
  simp only [Rs.bind]
  unfold evR
  rw [hb]
  simp only [Rs.bind, evR, putNs]
  rw [put_ok hi li rfl]
  simp only [Option.bind_some]
  rw [put_ok hj (by rw [List.length_set]; exact lj) rfl]
  rfl
/-- two rising rows of the same numbers are the same -/
theorem rise_eq : ∀ {xs ys : List Int}, xs.Pairwise (· < ·) → ys.Pairwise (· < ·) → (∀ z, z ∈ xs ↔ z ∈ ys) → xs = ys
  | [], [], _, _, _ => rfl
  | [], y :: ys, _, _, h => absurd ((h y).mpr List.mem_cons_self) (by simp)
  | x :: xs, [], _, _, h => absurd ((h x).mp List.mem_cons_self) (by simp)
  | x :: xs, y :: ys, hx, hy, h => by
    rw [List.pairwise_cons] at hx hy
    have e : x = y := by
      rcases List.mem_cons.mp ((h x).mp List.mem_cons_self) with z | z
      · exact z
      · rcases List.mem_cons.mp ((h y).mpr List.mem_cons_self) with z2 | z2
        · exact z2.symm
        · have := hy.1 x z
          have := hx.1 y z2
          omega
    subst e
    congr 1
    refine rise_eq hx.2 hy.2 fun z => ⟨fun hz => ?_, fun hz => ?_⟩
    · rcases List.mem_cons.mp ((h z).mp (List.mem_cons_of_mem _ hz)) with q | q
      · have := hx.1 z hz; omega
      · exact q
    · rcases List.mem_cons.mp ((h z).mpr (List.mem_cons_of_mem _ hz)) with q | q
      · have := hy.1 z hz; omega
      · exact q
end PV
namespace PV
open PySem PySem.Spec PyProof.Rows L2
theorem lt_nodup {xs : List Int} (h : xs.Pairwise (· < ·)) : xs.Nodup := h.imp fun {a b} hab z => by omega
def rngI (m : Nat) : List Int := (List.range m).map fun (i : Nat) => (i : Int)
theorem rngI_mem {m : Nat} {x : Int} : x ∈ rngI m ↔ 0 ≤ x ∧ x < m := by
  unfold rngI
  rw [List.mem_map]
  constructor
  · rintro ⟨i, hi, rfl⟩
    have := List.mem_range.mp hi
    omega
  · rintro ⟨h0, h1⟩
    exact ⟨x.toNat, List.mem_range.mpr (by omega), by omega⟩
theorem rngI_len (m : Nat) : (rngI m).length = m := by simp [rngI]
theorem rngI_nodup (m : Nat) : (rngI m).Nodup := by
  unfold rngI
  refine lt_nodup ?_
  rw [List.pairwise_map]
  exact (List.pairwise_lt_range (n := m)).imp fun {a b} h => by omega
theorem rngI_nodupP (m : Nat) : (rngI m).Pairwise (· ≠ ·) := rngI_nodup m
def sO (E : List IP) (s : Int) : Int := (E.getD s.toNat (0, 0)).1
def eO (E : List IP) (s : Int) : Int := (E.getD s.toNat (0, 0)).2
/-- streets one behind the other -/
def Lk (E : List IP) : Int → List Int → Int → Prop
  | a, [], b => a = b
  | a, s :: r, b => sO E s = a ∧ Lk E (eO E s) r b
theorem lk_app {E : List IP} : ∀ {u v : List Int} {a b : Int}, Lk E a (u ++ v) b ↔ ∃ t, Lk E a u t ∧ Lk E t v b
  | [], v, a, b => ⟨fun h => ⟨a, rfl, h⟩, fun ⟨t, h1, h2⟩ => by cases (show a = t from h1); exact h2⟩
  | s :: u, v, a, b => by
    constructor
    · rintro ⟨h1, h2⟩
      obtain ⟨t, h3, h4⟩ := lk_app.mp h2
      exact ⟨t, ⟨h1, h3⟩, h4⟩
    · rintro ⟨t, ⟨h1, h2⟩, h3⟩
      exact ⟨h1, lk_app.mpr ⟨t, h2, h3⟩⟩
theorem lk_rot {E : List IP} {c : List Int} {a x : Int} (h : Lk E a c a) (hx : x ∈ c) : ∃ r, (x :: r).Perm c ∧ Lk E (sO E x) (x :: r) (sO E x) := by
  obtain ⟨u, v, rfl⟩ := List.append_of_mem hx
  obtain ⟨t, h1, h2⟩ := lk_app.mp h
  have ht : sO E x = t := h2.1
  refine ⟨v ++ u, List.perm_append_comm (l₁ := x :: v) (l₂ := u), ?_⟩
  rw [ht]
  exact lk_app (u := x :: v).mpr ⟨a, h2, h1⟩
theorem lk_det {E : List IP} {lot : List Int} (inj : ∀ s ∈ lot, ∀ t ∈ lot, sO E s = sO E t → s = t) : ∀ {c d : List Int} {a h k : Int}, Lk E a c h → Lk E a d k → (∀ s ∈ c, s ∈ lot) → (∀ s ∈ d, s ∈ lot) → c.length ≤ d.length → ∃ r, d = c ++ r
  | [], d, _, _, _, _, _, _, _, _ => ⟨d, rfl⟩
  | s :: c, [], _, _, _, _, _, _, _, h => absurd h (by simp)
  | s :: c, t :: d, a, h, k, h1, h2, hc, hd, hl => by
    have e : s = t := inj s (hc s List.mem_cons_self) t (hd t List.mem_cons_self) (h1.1.trans h2.1.symm)
    subst e
    obtain ⟨r, rfl⟩ := lk_det inj h1.2 h2.2 (fun x hx => hc x (List.mem_cons_of_mem _ hx)) (fun x hx => hd x (List.mem_cons_of_mem _ hx)) (by simp at hl; omega)
    exact ⟨r, rfl⟩
/-- the streets of a lot lead round -/
structure RingL (E : List IP) (lot : List Int) : Prop where
  ne : lot ≠ []
  nd : (lot.map (sO E)).Nodup
  go : ∃ c a, c.Perm lot ∧ Lk E a c a
theorem inj_of {E : List IP} {lot : List Int} (h : (lot.map (sO E)).Nodup) : ∀ s ∈ lot, ∀ t ∈ lot, sO E s = sO E t → s = t := by
  induction lot with
  | nil => intro s hs; cases hs
  | cons x r ih =>
    rw [List.map_cons, List.nodup_cons] at h
    intro s hs t ht e
    rcases List.mem_cons.mp hs with h1 | h1
    · rcases List.mem_cons.mp ht with h2 | h2
      · rw [h1, h2]
      · exact absurd (List.mem_map.mpr ⟨t, h2, by rw [← e, h1]⟩) h.1
    · rcases List.mem_cons.mp ht with h2 | h2
      · exact absurd (List.mem_map.mpr ⟨s, h1, by rw [e, h2]⟩) h.1
      · exact ih h.2 s h1 t h2 e
/-! ### all ways on, from a town -/
abbrev Wy := List Int × List Int × Int
section
variable (E : List IP) (f : Int)
def clS (P : Wy) (s : Int) : List (List Int) := if sO E s = P.2.2 ∧ eO E s = f then [P.1 ++ [s]] else []
def chS (P : Wy) (s : Int) : List Wy := if sO E s = P.2.2 ∧ f < eO E s ∧ eO E s ∉ P.2.1 ++ [P.2.2] then [(P.1 ++ [s], P.2.1 ++ [P.2.2], eO E s)] else []
def coll : Nat → Wy → List (List Int)
  | 0, _ => []
  | k + 1, P => (rngI E.length).flatMap fun s => clS E f P s ++ (chS E f P s).flatMap (coll k)
def size : Nat → Wy → Nat
  | 0, _ => 0
  | k + 1, P => 1 + ((rngI E.length).flatMap (chS E f P)).foldr (fun Q n => size k Q + n) 0
end
section
variable {E : List IP} {f : Int}
theorem chS_mem {P Q : Wy} {s : Int} (h : Q ∈ chS E f P s) : sO E s = P.2.2 ∧ f < eO E s ∧ eO E s ∉ P.2.1 ++ [P.2.2] ∧ Q = (P.1 ++ [s], P.2.1 ++ [P.2.2], eO E s) := by
  unfold chS at h
  split at h
  · rename_i q
    exact ⟨q.1, q.2.1, q.2.2, List.mem_singleton.mp h⟩
  · cases h
theorem clS_mem {P : Wy} {c : List Int} {s : Int} (h : c ∈ clS E f P s) : sO E s = P.2.2 ∧ eO E s = f ∧ c = P.1 ++ [s] := by
  unfold clS at h
  split at h
  · rename_i q
    exact ⟨q.1, q.2, List.mem_singleton.mp h⟩
  · cases h
/-- what is behind S in a ring that is found -/
structure Beh (E : List IP) (f : Int) (T : List Int) (t : Int) (R : List Int) : Prop where
  ne : R ≠ []
  inr : ∀ s ∈ R, s ∈ rngI E.length
  lk : Lk E t R f
  ab : ∀ s ∈ R.tail, f < sO E s ∧ sO E s ∉ T
  nd : (R.tail.map (sO E)).Nodup
theorem coll_beh : ∀ {k : Nat} {P : Wy} {c : List Int}, c ∈ coll E f k P → ∃ R, c = P.1 ++ R ∧ Beh E f (P.2.1 ++ [P.2.2]) P.2.2 R
  | 0, P, c, h => nomatch h
  | k + 1, P, c, h => by
    obtain ⟨s, hs, h⟩ := List.mem_flatMap.mp h
    rcases List.mem_append.mp h with h | h
    · obtain ⟨h1, h2, rfl⟩ := clS_mem h
      refine ⟨[s], rfl, by simp, fun x hx => by rw [List.mem_singleton.mp hx]; exact hs, ⟨h1, h2⟩, fun x hx => (nomatch hx), List.nodup_nil⟩
    · obtain ⟨Q, hQ, h⟩ := List.mem_flatMap.mp h
      obtain ⟨h1, h2, h3, rfl⟩ := chS_mem hQ
      obtain ⟨R, rfl, b⟩ := coll_beh h
      have b1 := b.ne
      have b2 := b.lk
      have b3 := b.ab
      have b4 := b.nd
      have b5 := b.inr
      simp only at b1 b2 b3 b4 b5 h1 h2 h3 ⊢
      cases R with
      | nil => exact absurd rfl b1
      | cons x r =>
        refine ⟨s :: x :: r, by simp, by simp, fun y hy => ?_, ⟨h1, b2⟩, fun y hy => ?_, ?_⟩
        · rcases List.mem_cons.mp hy with z | z
          · rw [z]; exact hs
          · exact b5 y z
        · have hy : y ∈ x :: r := hy
          rcases List.mem_cons.mp hy with z | z
          · rw [z, b2.1]; exact ⟨h2, h3⟩
          · obtain ⟨g1, g2⟩ := b3 y z
            exact ⟨g1, fun z2 => g2 (List.mem_append_left _ z2)⟩
        · show ((x :: r).map (sO E)).Nodup
          rw [List.map_cons, List.nodup_cons]
          refine ⟨fun z => ?_, b4⟩
          obtain ⟨y, hy, e⟩ := List.mem_map.mp z
          have := (b3 y hy).2
          rw [e, b2.1] at this
          exact this (List.mem_append_right _ (List.mem_singleton.mpr rfl))
theorem beh_coll : ∀ {R : List Int} {k : Nat} {P : Wy}, Beh E f (P.2.1 ++ [P.2.2]) P.2.2 R → R.length ≤ k → P.1 ++ R ∈ coll E f k P
  | [], k, P, b, _ => absurd rfl b.ne
  | s :: r, 0, P, _, h => absurd h (by simp)
  | [s], k + 1, P, b, _ => by
    refine List.mem_flatMap.mpr ⟨s, b.inr s List.mem_cons_self, List.mem_append_left _ ?_⟩
    have h := b.lk
    unfold clS
    rw [if_pos ⟨h.1, h.2⟩]
    exact List.mem_singleton.mpr rfl
  | s :: x :: r, k + 1, P, b, hl => by
    refine List.mem_flatMap.mpr ⟨s, b.inr s List.mem_cons_self, List.mem_append_right _ ?_⟩
    have hx := b.ab x List.mem_cons_self
    have hlk := b.lk
    have e1 : sO E x = eO E s := hlk.2.1
    rw [e1] at hx
    have hnd : ((x :: r).map (sO E)).Nodup := b.nd
    rw [List.map_cons, List.nodup_cons] at hnd
    unfold chS
    rw [if_pos ⟨hlk.1, hx.1, hx.2⟩, List.flatMap_cons, List.flatMap_nil, List.append_nil]
    have := beh_coll (R := x :: r) (k := k) (P := (P.1 ++ [s], P.2.1 ++ [P.2.2], eO E s)) ⟨by simp, fun y hy => b.inr y (List.mem_cons_of_mem _ hy), hlk.2, fun y hy => ?_, hnd.2⟩ (by simp at hl ⊢; omega)
    · simpa using this
    · have hy : y ∈ r := hy
      obtain ⟨g1, g2⟩ := b.ab y (List.mem_cons_of_mem _ hy)
      refine ⟨g1, fun z => ?_⟩
      rcases List.mem_append.mp z with z | z
      · exact g2 z
      · have z := List.mem_singleton.mp z
        exact hnd.1 (List.mem_map.mpr ⟨y, hy, (show sO E y = eO E s from z).trans e1.symm⟩)
theorem nodup_fm {α β : Type} {g : α → List β} : ∀ {l : List α}, (∀ x ∈ l, (g x).Nodup) → l.Pairwise (fun x y => ∀ b ∈ g x, b ∉ g y) → (l.flatMap g).Nodup
  | [], _, _ => List.nodup_nil
  | x :: l, h, p => by
    rw [List.flatMap_cons, List.nodup_append]
    have p := List.pairwise_cons.mp p
    refine ⟨h x List.mem_cons_self, nodup_fm (fun y hy => h y (List.mem_cons_of_mem _ hy)) p.2, fun a ha b hb e => ?_⟩
    subst e
    obtain ⟨y, hy, hb⟩ := List.mem_flatMap.mp hb
    exact p.1 y hy a ha hb
theorem coll_nodup : ∀ (k : Nat) (P : Wy), (coll E f k P).Nodup
  | 0, _ => List.nodup_nil
  | k + 1, P => by
    have pre : ∀ s c, c ∈ clS E f P s ++ (chS E f P s).flatMap (coll E f k) → ∃ r, c = P.1 ++ s :: r := by
      intro s c h
      rcases List.mem_append.mp h with h | h
      · exact ⟨[], (clS_mem h).2.2⟩
      · obtain ⟨Q, hQ, h⟩ := List.mem_flatMap.mp h
        obtain ⟨_, _, _, rfl⟩ := chS_mem hQ
        obtain ⟨R, rfl, _⟩ := coll_beh h
        exact ⟨R, by simp⟩
    refine nodup_fm (fun s _ => ?_) ?_
    · rw [List.nodup_append]
      refine ⟨?_, ?_, fun a ha b hb e => ?_⟩
      · unfold clS; split <;> simp
      · unfold chS
        split
        · rw [List.flatMap_cons, List.flatMap_nil, List.append_nil]; exact coll_nodup k _
        · exact List.nodup_nil
      · subst e
        obtain ⟨h1, h2, _⟩ := clS_mem ha
        obtain ⟨Q, hQ, _⟩ := List.mem_flatMap.mp hb
        obtain ⟨_, h3, _⟩ := chS_mem hQ
        omega
    · refine (rngI_nodupP E.length).imp fun {s t} hst c h1 h2 => ?_
      obtain ⟨r, e1⟩ := pre s c h1
      obtain ⟨r', e2⟩ := pre t c h2
      rw [e1] at e2
      have := List.append_cancel_left e2
      exact hst (List.cons.inj this).1
end
end PV
namespace PV
open PySem PySem.Spec PyProof.Rows L2
theorem fm_split {α β : Type} {a b : α → List β} : ∀ l : List α, (l.flatMap fun s => a s ++ b s).Perm (l.flatMap a ++ l.flatMap b)
  | [] => .nil
  | x :: l => by
    rw [List.flatMap_cons, List.flatMap_cons, List.flatMap_cons, List.append_assoc, List.append_assoc]
    refine List.Perm.append_left _ (((fm_split l).append_left (b x)).trans ?_)
    rw [← List.append_assoc, ← List.append_assoc]
    exact List.Perm.append_right _ List.perm_append_comm
theorem fm_fm {α β γ : Type} {a : α → List β} {g : β → List γ} : ∀ l : List α, (l.flatMap fun s => (a s).flatMap g) = (l.flatMap a).flatMap g
  | [] => rfl
  | x :: l => by rw [List.flatMap_cons, List.flatMap_cons, List.flatMap_append, fm_fm l]
section
variable {E : List IP} {f m : Int}
structure Vld (m : Int) (P : Wy) : Prop where
  nd : (P.2.1 ++ [P.2.2]).Nodup
  inr : ∀ t ∈ P.2.1 ++ [P.2.2], 0 ≤ t ∧ t < m
def lv (m : Int) (P : Wy) : Nat := m.toNat - P.2.1.length
def collV (E : List IP) (f m : Int) (P : Wy) : List (List Int) := coll E f (lv m P) P
def sizeV (E : List IP) (f m : Int) (P : Wy) : Nat := size E f (lv m P) P
theorem Vld.lv {P : Wy} (h : Vld m P) : 1 ≤ lv m P := by
  have := nodup_len h.nd (ys := rngI m.toNat) fun t ht => rngI_mem.mpr (by have := h.inr t ht; omega)
  rw [rngI_len] at this
  simp at this
  unfold PV.lv
  omega
theorem Vld.ch {P Q : Wy} {s : Int} (h : Vld m P) (hE : ∀ s ∈ rngI E.length, 0 ≤ eO E s ∧ eO E s < m) (hs : s ∈ rngI E.length) (hQ : Q ∈ chS E f P s) : Vld m Q ∧ PV.lv m P = PV.lv m Q + 1 := by
  obtain ⟨h1, h2, h3, rfl⟩ := chS_mem hQ
  have hl := h.lv
  refine ⟨⟨?_, fun t ht => ?_⟩, ?_⟩
  · show ((P.2.1 ++ [P.2.2]) ++ [eO E s]).Nodup
    rw [List.nodup_append]
    exact ⟨h.nd, by simp, fun a ha b hb e => by rw [List.mem_singleton] at hb; subst hb; subst e; exact h3 ha⟩
  · rcases List.mem_append.mp ht with z | z
    · exact h.inr t z
    · rw [List.mem_singleton.mp z]; exact hE s hs
  · unfold PV.lv at hl ⊢
    simp
    omega
theorem fm_congr {α β : Type} {a b : α → List β} : ∀ {l : List α}, (∀ x ∈ l, a x = b x) → l.flatMap a = l.flatMap b
  | [], _ => rfl
  | x :: l, h => by rw [List.flatMap_cons, List.flatMap_cons, h x List.mem_cons_self, fm_congr fun y hy => h y (List.mem_cons_of_mem _ hy)]
theorem collV_step {P : Wy} (h : Vld m P) (hE : ∀ s ∈ rngI E.length, 0 ≤ eO E s ∧ eO E s < m) : (collV E f m P).Perm (((rngI E.length).flatMap (clS E f P)) ++ ((rngI E.length).flatMap (chS E f P)).flatMap (collV E f m)) := by
  obtain ⟨k, hk⟩ : ∃ k, lv m P = k + 1 := ⟨lv m P - 1, by have := h.lv; omega⟩
  have e : collV E f m P = (rngI E.length).flatMap fun s => clS E f P s ++ (chS E f P s).flatMap (collV E f m) := by
    unfold collV
    rw [hk]
    show ((rngI E.length).flatMap fun s => clS E f P s ++ (chS E f P s).flatMap (coll E f k)) = _
    refine fm_congr fun s hs => ?_
    congr 1
    refine fm_congr fun Q hQ => ?_
    have := (h.ch hE hs hQ).2
    rw [hk] at this
    rw [show lv m Q = k by omega]
  rw [e]
  refine (fm_split _).trans ?_
  rw [fm_fm]
theorem sizeV_step {P : Wy} (h : Vld m P) (hE : ∀ s ∈ rngI E.length, 0 ≤ eO E s ∧ eO E s < m) : sizeV E f m P = 1 + ((rngI E.length).flatMap (chS E f P)).foldr (fun Q n => sizeV E f m Q + n) 0 := by
  obtain ⟨k, hk⟩ : ∃ k, lv m P = k + 1 := ⟨lv m P - 1, by have := h.lv; omega⟩
  unfold sizeV
  rw [hk]
  show 1 + ((rngI E.length).flatMap (chS E f P)).foldr (fun Q n => size E f k Q + n) 0 = _
  congr 1
  have key : ∀ l : List Wy, (∀ Q ∈ l, ∃ s ∈ rngI E.length, Q ∈ chS E f P s) → l.foldr (fun Q n => size E f k Q + n) 0 = l.foldr (fun Q n => size E f (lv m Q) Q + n) 0 := by
    intro l
    induction l with
    | nil => intro _; rfl
    | cons Q l ih =>
      intro hl
      obtain ⟨s, hs, hQ⟩ := hl Q List.mem_cons_self
      have := (h.ch hE hs hQ).2
      rw [hk] at this
      rw [List.foldr_cons, List.foldr_cons, ih fun R hR => hl R (List.mem_cons_of_mem _ hR), show lv m Q = k by omega]
  exact key _ fun Q hQ => List.mem_flatMap.mp hQ
def dg (E : List IP) (T : List Int) : Nat := ((rngI E.length).filter fun s => !T.contains (sO E s)).length
theorem dg_part {E : List IP} {T : List Int} {t : Int} (ht : t ∉ T) : dg E T = dg E (T ++ [t]) + ((rngI E.length).filter fun s => decide (sO E s = t)).length := by
  unfold dg
  have key : ∀ l : List Int, (l.filter fun s => !T.contains (sO E s)).length = (l.filter fun s => !(T ++ [t]).contains (sO E s)).length + (l.filter fun s => decide (sO E s = t)).length := by
    intro l
    induction l with
    | nil => rfl
    | cons x l ih =>
      by_cases h1 : sO E x = t
      · have a1 : (!T.contains (sO E x)) = true := by rw [h1]; simpa using ht
        have a2 : (!(T ++ [t]).contains (sO E x)) = false := by rw [h1]; simp
        have a3 : decide (sO E x = t) = true := decide_eq_true h1
        simp only [List.filter_cons, a1, a2, a3, if_true, Bool.false_eq_true, if_false, List.length_cons]
        omega
      · have a3 : decide (sO E x = t) = false := decide_eq_false h1
        have a2 : (!(T ++ [t]).contains (sO E x)) = (!T.contains (sO E x)) := by simp [h1]
        simp only [List.filter_cons, a2, a3, Bool.false_eq_true, if_false]
        split
        · simp only [List.length_cons]; omega
        · exact ih
  exact key _
theorem ch_few {P : Wy} : ((rngI E.length).flatMap (chS E f P)).length ≤ ((rngI E.length).filter fun s => decide (sO E s = P.2.2)).length := by
  have key : ∀ l : List Int, (l.flatMap (chS E f P)).length ≤ (l.filter fun s => decide (sO E s = P.2.2)).length := by
    intro l
    induction l with
    | nil => exact Nat.le_refl _
    | cons x l ih =>
      rw [List.flatMap_cons, List.length_append]
      by_cases h1 : sO E x = P.2.2
      · simp only [List.filter_cons, decide_eq_true h1, if_true, List.length_cons]
        have : (chS E f P x).length ≤ 1 := by unfold chS; split <;> simp
        omega
      · simp only [List.filter_cons, decide_eq_false h1, Bool.false_eq_true, if_false]
        have : (chS E f P x).length = 0 := by unfold chS; rw [if_neg fun z => h1 z.1]; rfl
        omega
  exact key _
theorem two_pow (d x : Nat) : 1 + d * 2 ^ x ≤ 2 ^ (d + x) := by
  induction d with
  | zero =>
    rw [Nat.zero_mul, Nat.zero_add, Nat.add_zero]
    exact Nat.one_le_two_pow
  | succ d ih =>
    have h1 : 1 ≤ 2 ^ x := Nat.one_le_two_pow
    have h2 : 2 ^ x ≤ 2 ^ (d + x) := Nat.pow_le_pow_right (by decide) (by omega)
    rw [show d + 1 + x = (d + x) + 1 by omega, Nat.pow_succ, Nat.succ_mul]
    omega
theorem size_le : ∀ (k : Nat) (P : Wy), P.2.2 ∉ P.2.1 → size E f k P ≤ 2 ^ dg E P.2.1
  | 0, P, _ => Nat.zero_le _
  | k + 1, P, h => by
    have h1 := dg_part (E := E) h
    have h2 := ch_few (E := E) (f := f) (P := P)
    have key : ∀ l : List Wy, (∀ Q ∈ l, ∃ s, Q ∈ chS E f P s) → l.foldr (fun Q n => size E f k Q + n) 0 ≤ l.length * 2 ^ dg E (P.2.1 ++ [P.2.2]) := by
      intro l
      induction l with
      | nil => intro _; simp
      | cons Q l ih =>
        intro hl
        obtain ⟨s, hQ⟩ := hl Q List.mem_cons_self
        have := ih fun R hR => hl R (List.mem_cons_of_mem _ hR)
        obtain ⟨_, _, h3, e⟩ := chS_mem hQ
        have h4 := size_le k Q (by rw [e]; exact h3)
        have h5 : dg E Q.2.1 = dg E (P.2.1 ++ [P.2.2]) := by rw [e]
        rw [h5] at h4
        rw [List.foldr_cons, List.length_cons, Nat.succ_mul]
        omega
    have h6 := key ((rngI E.length).flatMap (chS E f P)) fun Q hQ => by
      obtain ⟨s, _, hs⟩ := List.mem_flatMap.mp hQ
      exact ⟨s, hs⟩
    show 1 + _ ≤ _
    have h7 : ((rngI E.length).flatMap (chS E f P)).length * 2 ^ dg E (P.2.1 ++ [P.2.2]) ≤ ((rngI E.length).filter fun s => decide (sO E s = P.2.2)).length * 2 ^ dg E (P.2.1 ++ [P.2.2]) := Nat.mul_le_mul_right _ h2
    have h8 := two_pow ((rngI E.length).filter fun s => decide (sO E s = P.2.2)).length (dg E (P.2.1 ++ [P.2.2]))
    rw [h1, Nat.add_comm (dg E (P.2.1 ++ [P.2.2]))]
    omega
theorem size_root : sizeV E f m ([], [], f) ≤ 2 ^ E.length := by
  refine Nat.le_trans (size_le _ _ (by simp)) (Nat.pow_le_pow_right (by decide) ?_)
  unfold dg
  have := List.length_filter_le (fun s => !([] : List Int).contains (sO E s)) (rngI E.length)
  rw [rngI_len] at this
  exact this
/-! ### each ring once -/
theorem beh_nodup {R : List Int} (b : Beh E f [f] f R) : (R.map (sO E)).Nodup := by
  cases R with
  | nil => exact absurd rfl b.ne
  | cons x r =>
    rw [List.map_cons, List.nodup_cons]
    refine ⟨fun z => ?_, b.nd⟩
    obtain ⟨y, hy, e⟩ := List.mem_map.mp z
    have h1 := (b.ab y hy).1
    have h2 : sO E x = f := b.lk.1
    omega
theorem nodup_of_map {α β : Type} {g : α → β} : ∀ {l : List α}, (l.map g).Nodup → l.Nodup
  | [], _ => List.nodup_nil
  | x :: l, h => by
    rw [List.map_cons, List.nodup_cons] at h
    rw [List.nodup_cons]
    exact ⟨fun z => h.1 (List.mem_map.mpr ⟨x, z, rfl⟩), nodup_of_map h.2⟩
theorem nodup_map_on {α β : Type} {g : α → β} : ∀ {l : List α}, (∀ a ∈ l, ∀ b ∈ l, g a = g b → a = b) → l.Nodup → (l.map g).Nodup
  | [], _, _ => List.nodup_nil
  | x :: l, hi, h => by
    rw [List.nodup_cons] at h
    rw [List.map_cons, List.nodup_cons]
    refine ⟨fun z => ?_, nodup_map_on (fun a ha b hb => hi a (List.mem_cons_of_mem _ ha) b (List.mem_cons_of_mem _ hb)) h.2⟩
    obtain ⟨y, hy, e⟩ := List.mem_map.mp z
    have := hi y (List.mem_cons_of_mem _ hy) x List.mem_cons_self e
    subst this
    exact h.1 hy
theorem srtI_perm (xs : List Int) : (srtI xs).Perm xs := List.mergeSort_perm xs _
def ringsR (E : List IP) (m : Int) : List (List Int) := (rngI m.toNat).flatMap fun f => (collV E f m ([], [], f)).map srtI
theorem least_of {α : Type} (g : α → Int) : ∀ {l : List α}, l ≠ [] → ∃ x ∈ l, ∀ y ∈ l, g x ≤ g y
  | [x], _ => ⟨x, List.mem_cons_self, fun y hy => by rw [List.mem_singleton.mp hy]; exact Int.le_refl _⟩
  | x :: z :: l, _ => by
    obtain ⟨y, hy, h⟩ := least_of g (l := z :: l) (by simp)
    by_cases hc : g x ≤ g y
    · refine ⟨x, List.mem_cons_self, fun w hw => ?_⟩
      rcases List.mem_cons.mp hw with e | hw
      · rw [e]; exact Int.le_refl _
      · exact Int.le_trans hc (h w hw)
    · refine ⟨y, List.mem_cons_of_mem _ hy, fun w hw => ?_⟩
      rcases List.mem_cons.mp hw with e | hw
      · rw [e]; omega
      · exact h w hw
theorem ringsR_mem (hE : ∀ s ∈ rngI E.length, 0 ≤ sO E s ∧ sO E s < m) {lot : List Int} : lot ∈ ringsR E m ↔ lot.Pairwise (· < ·) ∧ (∀ s ∈ lot, s ∈ rngI E.length) ∧ RingL E lot := by
  constructor
  · intro h
    obtain ⟨f, hf, h⟩ := List.mem_flatMap.mp h
    obtain ⟨c, hc, rfl⟩ := List.mem_map.mp h
    obtain ⟨R, e, b⟩ := coll_beh hc
    have e : c = R := e
    subst e
    have b : Beh E f [f] f c := b
    have hnd := beh_nodup b
    refine ⟨srtI_lt (nodup_of_map hnd), fun s hs => b.inr s (srtI_mem.mp hs), ?_, ?_, c, f, (srtI_perm c).symm, b.lk⟩
    · intro z
      have := (srtI_perm c).length_eq
      rw [z] at this
      exact b.ne (List.eq_nil_of_length_eq_zero this.symm)
    · exact ((srtI_perm c).map (sO E)).nodup_iff.mpr hnd
  · rintro ⟨h1, h2, ne, nd, c, a, hc, lk⟩
    obtain ⟨x, hx, hmin⟩ := least_of (sO E) ne
    obtain ⟨r, hr, lk2⟩ := lk_rot lk (hc.mem_iff.mpr hx)
    have hp : (x :: r).Perm lot := hr.trans hc
    have hin : ∀ s ∈ x :: r, s ∈ rngI E.length := fun s hs => h2 s (hp.mem_iff.mp hs)
    have hnd : ((x :: r).map (sO E)).Nodup := (hp.map (sO E)).nodup_iff.mpr nd
    have hx0 := hE x (h2 x hx)
    have hb : Beh E (sO E x) [sO E x] (sO E x) (x :: r) := by
      rw [List.map_cons, List.nodup_cons] at hnd
      refine ⟨by simp, hin, lk2, fun s hs => ?_, hnd.2⟩
      have hs : s ∈ r := hs
      have g1 := hmin s (hp.mem_iff.mp (List.mem_cons_of_mem _ hs))
      have g2 : sO E s ≠ sO E x := fun z => hnd.1 (List.mem_map.mpr ⟨s, hs, z⟩)
      exact ⟨by omega, by rw [List.mem_singleton]; exact g2⟩
    have hl : (x :: r).length ≤ lv m ([], [], sO E x) := by
      have := nodup_len hnd (ys := rngI m.toNat) fun t ht => by
        obtain ⟨s, hs, rfl⟩ := List.mem_map.mp ht
        have := hE s (hin s hs)
        exact rngI_mem.mpr (by omega)
      rw [rngI_len, List.length_map] at this
      unfold lv
      simpa using this
    refine List.mem_flatMap.mpr ⟨sO E x, rngI_mem.mpr (by omega), List.mem_map.mpr ⟨x :: r, ?_, ?_⟩⟩
    · have := beh_coll (P := ([], [], sO E x)) hb hl
      exact this
    · exact rise_eq (srtI_lt (nodup_of_map hnd)) h1 fun z => srtI_mem.trans hp.mem_iff
theorem ringsR_nodup (hE : ∀ s ∈ rngI E.length, 0 ≤ sO E s ∧ sO E s < m) : (ringsR E m).Nodup := by
  refine nodup_fm (fun f _ => ?_) ((rngI_nodupP m.toNat).imp fun {f g} hfg lot h1 h2 => ?_)
  · refine nodup_map_on (fun c hc d hd e => ?_) (coll_nodup _ _)
    obtain ⟨R, e1, b⟩ := coll_beh hc
    obtain ⟨R', e2, b'⟩ := coll_beh hd
    have e1 : c = R := e1
    have e2 : d = R' := e2
    have b : Beh E f [f] f R := b
    have b' : Beh E f [f] f R' := b'
    rw [e1, e2] at e
    rw [e1, e2]
    have hp : R.Perm R' := (srtI_perm R).symm.trans ((e ▸ List.Perm.refl _ : (srtI R).Perm (srtI R')).trans (srtI_perm R'))
    obtain ⟨r, hr⟩ := lk_det (lot := R) (inj_of (beh_nodup b)) b.lk b'.lk (fun s hs => hs) (fun s hs => hp.mem_iff.mpr hs) (by rw [hp.length_eq]; exact Nat.le_refl _)
    have := hp.length_eq
    rw [hr, List.length_append] at this
    have : r = [] := List.eq_nil_of_length_eq_zero (by omega)
    exact (by rw [hr, this, List.append_nil] : R' = R).symm
  · obtain ⟨c, hc, e1⟩ := List.mem_map.mp h1
    obtain ⟨d, hd, e2⟩ := List.mem_map.mp h2
    obtain ⟨R, e3, b⟩ := coll_beh hc
    obtain ⟨R', e4, b'⟩ := coll_beh hd
    have e3 : c = R := e3
    have e4 : d = R' := e4
    have b : Beh E f [f] f R := b
    have b' : Beh E g [g] g R' := b'
    rw [e3] at e1
    rw [e4] at e2
    have hp : R.Perm R' := (srtI_perm R).symm.trans ((e1.trans e2.symm ▸ List.Perm.refl _ : (srtI R).Perm (srtI R')).trans (srtI_perm R'))
    have lo : ∀ {f : Int} {R : List Int}, Beh E f [f] f R → (∃ x ∈ R, sO E x = f) ∧ ∀ x ∈ R, f ≤ sO E x := by
      intro f R b
      cases R with
      | nil => exact absurd rfl b.ne
      | cons x r =>
        have h0 : sO E x = f := b.lk.1
        refine ⟨⟨x, List.mem_cons_self, h0⟩, fun y hy => ?_⟩
        rcases List.mem_cons.mp hy with z | z
        · rw [z, h0]; exact Int.le_refl _
        · exact Int.le_of_lt (b.ab y z).1
    obtain ⟨⟨x, hx, ex⟩, l1⟩ := lo b
    obtain ⟨⟨y, hy, ey⟩, l2⟩ := lo b'
    have a1 := l2 x (hp.mem_iff.mp hx)
    have a2 := l1 y (hp.mem_iff.mpr hy)
    exact hfg (by omega)
end
end PV
namespace PV
open PySem PySem.Spec PyProof.Rows L2
def tupI (xs : List Int) : PyData := .tuple (encI xs)
def leI (a b : List Int) : Bool := decide (a ≤ b)
theorem le_tupI (xs ys : List Int) : PySem.W.dataLe false id (tupI xs) (tupI ys) = leI xs ys := by
  show (!PySem.W.dataLt (.tuple (ys.map .int)) (.tuple (xs.map .int))) = _
  rw [PySem.W.dataLt_tuple]
  show (!PySem.W.rowLt (ys.map .int) (xs.map .int)) = _
  rw [PySem.W.dataLt_ints]
  unfold leI
  by_cases h : ys < xs
  · have h2 : ¬ xs ≤ ys := fun r => List.not_lt.mpr r h
    rw [decide_eq_true h, decide_eq_false h2]; rfl
  · have h2 : xs ≤ ys := List.not_lt.mp h
    rw [decide_eq_false h, decide_eq_true h2]; rfl
def sortL (xs : List (List Int)) : List (List Int) := xs.mergeSort leI
theorem srt_tups (xs : List (List Int)) : srtD (xs.map tupI) = (sortL xs).map tupI := by
  unfold srtD sortL
  exact (List.map_mergeSort fun a _ b _ => (le_tupI a b).symm).symm
theorem sortL_pw (xs : List (List Int)) : (sortL xs).Pairwise fun a b => leI a b = true := by
  refine List.pairwise_mergeSort (fun a b c h1 h2 => ?_) (fun a b => ?_) xs
  · unfold leI at *
    simp only [decide_eq_true_eq] at *
    exact List.le_trans h1 h2
  · unfold leI
    simp only [Bool.or_eq_true, decide_eq_true_eq]
    exact List.le_total a b
theorem leI_anti {a b : List Int} (h1 : leI a b = true) (h2 : leI b a = true) : a = b := by
  unfold leI at *
  simp only [decide_eq_true_eq] at *
  exact List.le_antisymm h1 h2
theorem sortL_perm (xs : List (List Int)) : (sortL xs).Perm xs := List.mergeSort_perm xs _
theorem sorted_one {xs ys : List (List Int)} (hx : xs.Pairwise fun a b => leI a b = true) (hy : ys.Pairwise fun a b => leI a b = true) (h : xs.Perm ys) : xs = ys := List.Perm.eq_of_pairwise (fun a b _ _ h1 h2 => leI_anti h1 h2) hx hy h
theorem sortL_eq {xs ys : List (List Int)} (h : xs.Perm ys) : sortL xs = sortL ys := sorted_one (sortL_pw xs) (sortL_pw ys) ((sortL_perm xs).trans (h.trans (sortL_perm ys).symm))
/-- the same, worked out by putting in -/
def insL (x : List Int) : List (List Int) → List (List Int)
  | [] => [x]
  | y :: r => if leI x y = true then x :: y :: r else y :: insL x r
def isrt : List (List Int) → List (List Int)
  | [] => []
  | x :: r => insL x (isrt r)
theorem insL_perm (x : List Int) : ∀ r, (insL x r).Perm (x :: r)
  | [] => .refl _
  | y :: r => by
    unfold insL
    split
    · exact .refl _
    · exact ((insL_perm x r).cons y).trans (List.Perm.swap _ _ _)
theorem insL_pw (x : List Int) : ∀ r : List (List Int), r.Pairwise (fun a b => leI a b = true) → (insL x r).Pairwise fun a b => leI a b = true
  | [], _ => by simp [insL]
  | y :: r, h => by
    have h2 := List.pairwise_cons.mp h
    unfold insL
    split
    · rename_i hxy
      refine List.pairwise_cons.mpr ⟨fun z hz => ?_, h⟩
      rcases List.mem_cons.mp hz with e | hz
      · rw [e]; exact hxy
      · have := h2.1 z hz
        unfold leI at *
        simp only [decide_eq_true_eq] at *
        exact List.le_trans hxy this
    · rename_i hxy
      refine List.pairwise_cons.mpr ⟨fun z hz => ?_, insL_pw x r h2.2⟩
      rcases List.mem_cons.mp ((insL_perm x r).mem_iff.mp hz) with e | hz
      · rw [e]
        unfold leI at *
        simp only [decide_eq_true_eq] at *
        exact (List.le_total x y).resolve_left hxy
      · exact h2.1 z hz
theorem isrt_all : ∀ r : List (List Int), (isrt r).Perm r ∧ (isrt r).Pairwise fun a b => leI a b = true
  | [] => ⟨.refl _, .nil⟩
  | x :: r => ⟨(insL_perm x _).trans ((isrt_all r).1.cons x), insL_pw x _ (isrt_all r).2⟩
theorem sortL_isrt (xs : List (List Int)) : sortL xs = isrt xs := sorted_one (sortL_pw xs) (isrt_all xs).2 ((sortL_perm xs).trans (isrt_all xs).1.symm)
theorem alike_ints : ∀ xs ys : List Int, PySem.W.alikeAll (encI xs) (encI ys) = true
  | [], _ => by simp [encI, PySem.W.alikeAll]
  | _ :: _, [] => by simp [encI, PySem.W.alikeAll]
  | x :: xs, y :: ys => by
    have := alike_ints xs ys
    show (true && PySem.W.alikeAll (encI xs) (encI ys)) = true
    rw [this]; rfl
theorem depth_ints (xs : List Int) : (tupI xs).depth ≤ 1 := by
  have h : PyData.depthAll (encI xs) ≤ 0 := by
    induction xs with
    | nil => exact Nat.le_refl _
    | cons x r ih =>
      show max (PyData.int x).depth (PyData.depthAll (encI r)) ≤ 0
      have : (PyData.int x).depth = 0 := by simp only [PyData.depth]
      omega
  show PyData.depthAll (encI xs) + 1 ≤ 1
  omega
theorem sorted_tups {xs : List (List Int)} (hne : ∀ x ∈ xs, x ≠ []) (hl : xs.length ≤ 100000) : gSorted [.list (xs.map tupI)] = some (.fl ((sortL xs).map tupI)) := by
  have hm : ∀ d ∈ xs.map tupI, ∃ p ∈ xs, d = tupI p := fun d hd => by
    obtain ⟨p, hp, rfl⟩ := List.mem_map.mp hd
    exact ⟨p, hp, rfl⟩
  have h1 : alikeB (xs.map tupI) = true := by
    unfold alikeB
    rw [List.all_eq_true]
    intro d hd
    rw [List.all_eq_true]
    intro d' hd'
    obtain ⟨p, _, rfl⟩ := hm d hd
    obtain ⟨q, _, rfl⟩ := hm d' hd'
    exact alike_ints p q
  have h2 : sortB (xs.map tupI) = true := by
    unfold sortB
    rw [Bool.or_eq_true]
    left
    rw [List.all_eq_true]
    intro d hd
    obtain ⟨p, hp, rfl⟩ := hm d hd
    cases p with
    | nil => exact absurd rfl (hne _ hp)
    | cons x r => rfl
  have h3 : deepB (xs.map tupI) = true := by
    unfold deepB
    rw [List.all_eq_true]
    intro d hd
    obtain ⟨p, _, rfl⟩ := hm d hd
    exact decide_eq_true (Nat.le_trans (depth_ints p) (by decide))
  show (if alikeB (xs.map tupI) = true ∧ sortB (xs.map tupI) = true ∧ deepB (xs.map tupI) = true ∧ (xs.map tupI).length ≤ line then some (Od.fl (sortQ (xs.map tupI))) else none) = _
  rw [if_pos ⟨h1, h2, h3, by rw [List.length_map]; exact le_line hl⟩, sortQ_eq, srt_tups]
theorem sorted_intsT {xs : List Int} (h : xs.length ≤ line) : gSorted [.tuple (encI xs)] = some (.fl (encI (srtI xs))) := sorted_ints h
/-! ### lots -/
def lotsI : Nat → List (List Int)
  | 0 => [[]]
  | k + 1 => lotsI k ++ (lotsI k).map (· ++ [(k : Int)])
theorem lotsI_mem : ∀ {k : Nat} {lot : List Int}, lot ∈ lotsI k ↔ lot.Pairwise (· < ·) ∧ ∀ s ∈ lot, 0 ≤ s ∧ s < k
  | 0, lot => by
    unfold lotsI
    rw [List.mem_singleton]
    constructor
    · rintro rfl
      exact ⟨.nil, fun s hs => (nomatch hs)⟩
    · rintro ⟨_, h⟩
      cases lot with
      | nil => rfl
      | cons x r => have := h x List.mem_cons_self; omega
  | k + 1, lot => by
    unfold lotsI
    rw [List.mem_append, lotsI_mem, List.mem_map]
    constructor
    · rintro (⟨h1, h2⟩ | ⟨l, hl, rfl⟩)
      · exact ⟨h1, fun s hs => by have := h2 s hs; omega⟩
      · obtain ⟨h1, h2⟩ := lotsI_mem.mp hl
        refine ⟨List.pairwise_append.mpr ⟨h1, List.pairwise_singleton _ _, fun a ha b hb => by rw [List.mem_singleton.mp hb]; exact (h2 a ha).2⟩, fun s hs => ?_⟩
        rcases List.mem_append.mp hs with z | z
        · have := h2 s z; omega
        · rw [List.mem_singleton.mp z]; omega
    · rintro ⟨h1, h2⟩
      by_cases hk : (k : Int) ∈ lot
      · right
        have hne : lot ≠ [] := fun z => by rw [z] at hk; cases hk
        have e := List.dropLast_concat_getLast hne
        have hlast : lot.getLast hne = (k : Int) := by
          obtain ⟨u, v, huv⟩ := List.append_of_mem hk
          cases v with
          | nil => simp [huv]
          | cons x r =>
            rw [huv] at h1 h2
            have := (List.pairwise_cons.mp (List.pairwise_append.mp h1).2.1).1 x List.mem_cons_self
            have := h2 x (List.mem_append_right _ (List.mem_cons_of_mem _ List.mem_cons_self))
            omega
        rw [hlast] at e
        refine ⟨lot.dropLast, lotsI_mem.mpr ?_, e⟩
        rw [← e] at h1 h2
        have h3 := List.pairwise_append.mp h1
        exact ⟨h3.1, fun s hs => ⟨(h2 s (List.mem_append_left _ hs)).1, h3.2.2 s hs _ (List.mem_singleton.mpr rfl)⟩⟩
      · left
        exact ⟨h1, fun s hs => by
          have := h2 s hs
          have : s ≠ (k : Int) := fun z => hk (z ▸ hs)
          omega⟩
theorem lotsI_nodup : ∀ k : Nat, (lotsI k).Nodup
  | 0 => by simp [lotsI]
  | k + 1 => by
    unfold lotsI
    rw [List.nodup_append]
    refine ⟨lotsI_nodup k, nodup_map_on (fun a _ b _ e => List.append_cancel_right e) (lotsI_nodup k), fun a ha b hb e => ?_⟩
    subst e
    obtain ⟨l, _, rfl⟩ := List.mem_map.mp hb
    have := (lotsI_mem.mp ha).2 (k : Int) (List.mem_append_right _ (List.mem_singleton.mpr rfl))
    omega
theorem lotsI_len : ∀ k : Nat, (lotsI k).length = 2 ^ k
  | 0 => rfl
  | k + 1 => by
    unfold lotsI
    rw [List.length_append, List.length_map, lotsI_len k, Nat.pow_succ]
    omega
theorem lotsI_head : ∀ k : Nat, lotsI k = [] :: (lotsI k).drop 1
  | 0 => rfl
  | k + 1 => by
    unfold lotsI
    rw [lotsI_head k]
    rfl
theorem lotsI_rest {k : Nat} {lot : List Int} : lot ∈ (lotsI k).drop 1 ↔ lot ≠ [] ∧ lot ∈ lotsI k := by
  have h := lotsI_nodup k
  rw [lotsI_head k] at h ⊢
  rw [List.nodup_cons] at h
  constructor
  · intro hm
    simp only [List.drop_succ_cons, List.drop_zero] at hm
    exact ⟨fun z => h.1 (z ▸ hm), List.mem_cons_of_mem _ hm⟩
  · rintro ⟨h1, h2⟩
    rcases List.mem_cons.mp h2 with z | z
    · exact absurd z h1
    · simpa using z
/-- the rings, in their order -/
def ringsL (E : List IP) (m : Int) : List (List Int) := sortL (ringsR E m)
theorem ringsL_filter {E : List IP} {m : Int} (hE : ∀ s ∈ rngI E.length, 0 ≤ sO E s ∧ sO E s < m) {p : List Int → Bool} (hp : ∀ lot ∈ (lotsI E.length).drop 1, p lot = true ↔ RingL E lot) : sortL (((lotsI E.length).drop 1).filter p) = ringsL E m := by
  refine sortL_eq ((List.perm_ext_iff_of_nodup ?_ (ringsR_nodup hE)).mpr fun lot => ?_)
  · have := lotsI_nodup E.length
    exact (List.filter_sublist.nodup ((List.drop_sublist 1 _).nodup this))
  · rw [List.mem_filter, ringsR_mem hE]
    constructor
    · rintro ⟨h1, h2⟩
      have h3 := lotsI_mem.mp (lotsI_rest.mp h1).2
      exact ⟨h3.1, fun s hs => rngI_mem.mpr (h3.2 s hs), (hp lot h1).mp h2⟩
    · rintro ⟨h1, h2, h3⟩
      have hm : lot ∈ (lotsI E.length).drop 1 := lotsI_rest.mpr ⟨h3.ne, lotsI_mem.mpr ⟨h1, fun s hs => rngI_mem.mp (h2 s hs)⟩⟩
      exact ⟨hm, (hp lot hm).mpr h3⟩
end PV
namespace PV
open PySem PySem.Spec PyProof.Rows L2
def flipE (p : Int → Bool) (E : List IP) : List IP := (rngI E.length).map fun s => if p s = true then (eO E s, sO E s) else (sO E s, eO E s)
theorem rngI_at {n j : Nat} (h : j < (rngI n).length) : (rngI n)[j] = (j : Int) := by simp [rngI]
theorem flipE_len (p : Int → Bool) (E : List IP) : (flipE p E).length = E.length := by unfold flipE; rw [List.length_map, rngI_len]
theorem flipE_at {p : Int → Bool} {E : List IP} {j : Nat} (h : j < (flipE p E).length) : (flipE p E)[j] = if p (j : Int) = true then (eO E (j : Int), sO E (j : Int)) else (sO E (j : Int), eO E (j : Int)) := by
  have hj : j < E.length := by rw [flipE_len] at h; exact h
  have e : (flipE p E)[j]? = some (if p (j : Int) = true then (eO E (j : Int), sO E (j : Int)) else (sO E (j : Int), eO E (j : Int))) := by
    unfold flipE
    rw [List.getElem?_map, List.getElem?_eq_getElem (by rw [rngI_len]; exact hj), rngI_at]; rfl
  rw [List.getElem?_eq_getElem h] at e
  exact Option.some.inj e
theorem flipE_congr {p q : Int → Bool} {E : List IP} (h : ∀ s ∈ rngI E.length, p s = q s) : flipE p E = flipE q E := by
  unfold flipE
  exact List.map_congr_left fun s hs => by rw [h s hs]
theorem at_sO {E : List IP} {j : Nat} (h : j < E.length) : sO E (j : Int) = E[j].1 ∧ eO E (j : Int) = E[j].2 := by
  unfold sO eO
  rw [Int.toNat_natCast, List.getD_eq_getElem?_getD, List.getElem?_eq_getElem h]
  exact ⟨rfl, rfl⟩
theorem flip_sO {p : Int → Bool} {E : List IP} {s : Int} (h : s ∈ rngI E.length) : sO (flipE p E) s = (if p s = true then eO E s else sO E s) ∧ eO (flipE p E) s = (if p s = true then sO E s else eO E s) := by
  obtain ⟨h0, h1⟩ := rngI_mem.mp h
  have e : ((s.toNat : Nat) : Int) = s := by omega
  have hj : s.toNat < (flipE p E).length := by rw [flipE_len]; omega
  have h2 := at_sO hj
  rw [flipE_at hj, e] at h2
  rw [h2.1, h2.2]
  cases p s <;> exact ⟨rfl, rfl⟩
theorem sO_map (E : List IP) : E.map (·.1) = (rngI E.length).map (sO E) := by
  apply List.ext_getElem
  · rw [List.length_map, List.length_map, rngI_len]
  · intro j h1 h2
    rw [List.getElem_map, List.getElem_map, rngI_at, (at_sO (by rw [List.length_map] at h1; exact h1)).1]
theorem lk_ends {E : List IP} : ∀ {c : List Int} {a b : Int}, Lk E a c b → (a :: c.map (eO E)).Perm (c.map (sO E) ++ [b])
  | [], a, b, h => by cases (show a = b from h); exact .refl _
  | s :: r, a, b, h => by
    have ih := lk_ends h.2
    have h1 : sO E s = a := h.1
    rw [List.map_cons, List.map_cons, h1]
    exact ih.cons a
theorem ring_ends {E : List IP} {lot : List Int} (h : RingL E lot) : (lot.map (eO E)).Perm (lot.map (sO E)) := by
  obtain ⟨c, a, hc, lk⟩ := h.go
  have h1 := lk_ends lk
  have h2 : (a :: c.map (eO E)).Perm (a :: c.map (sO E)) := h1.trans List.perm_append_comm
  exact ((hc.map (eO E)).symm.trans (List.Perm.cons_inv h2)).trans (hc.map (sO E))
theorem split_perm {p : Int → Bool} (l : List Int) : l.Perm (l.filter p ++ l.filter fun s => !p s) := (List.filter_append_perm p l).symm
theorem rng_in {n : Nat} {lot : List Int} (hn : lot.Nodup) (hin : ∀ s ∈ lot, s ∈ rngI n) : ((rngI n).filter fun s => lot.contains s).Perm lot := by
  refine (List.perm_ext_iff_of_nodup (List.filter_sublist.nodup (rngI_nodup n)) hn).mpr fun s => ?_
  rw [List.mem_filter, List.contains_iff_mem]
  exact ⟨fun h => h.2, fun h => ⟨hin s h, h⟩⟩
/-- a ring turned leaves how often each town stands ahead -/
theorem ring_outs {E : List IP} {lot : List Int} (h : RingL E lot) (hin : ∀ s ∈ lot, s ∈ rngI E.length) (hn : lot.Nodup) : ((flipE (fun s => lot.contains s) E).map (·.1)).Perm (E.map (·.1)) := by
  rw [sO_map, sO_map, flipE_len]
  have hp := split_perm (p := fun s => lot.contains s) (rngI E.length)
  have hr := rng_in hn hin
  have e1 : ((rngI E.length).filter fun s => lot.contains s).map (sO (flipE (fun s => lot.contains s) E)) = ((rngI E.length).filter fun s => lot.contains s).map (eO E) := List.map_congr_left fun s hs => by
    obtain ⟨h1, h2⟩ := List.mem_filter.mp hs
    rw [(flip_sO h1).1, if_pos h2]
  have e2 : ((rngI E.length).filter fun s => !lot.contains s).map (sO (flipE (fun s => lot.contains s) E)) = ((rngI E.length).filter fun s => !lot.contains s).map (sO E) := List.map_congr_left fun s hs => by
    obtain ⟨h1, h2⟩ := List.mem_filter.mp hs
    rw [(flip_sO h1).1, if_neg (by simpa using h2)]
  refine ((hp.map _).trans ?_).trans (hp.map (sO E)).symm
  rw [List.map_append, List.map_append, e1, e2]
  exact List.Perm.append_right _ (((hr.map (eO E)).trans (ring_ends h)).trans (hr.map (sO E)).symm)
theorem lk_rev {E F : List IP} : ∀ {c : List Int} {a b : Int}, Lk E a c b → (∀ s ∈ c, sO F s = eO E s ∧ eO F s = sO E s) → Lk F b c.reverse a
  | [], a, b, h, _ => (show a = b from h).symm
  | s :: r, a, b, h, hf => by
    rw [List.reverse_cons]
    have ih := lk_rev h.2 fun x hx => hf x (List.mem_cons_of_mem _ hx)
    have h1 := hf s List.mem_cons_self
    exact lk_app.mpr ⟨eO E s, ih, h1.1, h1.2.trans h.1⟩
theorem lk_same {E F : List IP} : ∀ {c : List Int} {a b : Int}, Lk E a c b → (∀ s ∈ c, sO F s = sO E s ∧ eO F s = eO E s) → Lk F a c b
  | [], a, b, h, _ => h
  | s :: r, a, b, h, hf => by
    have h1 := hf s List.mem_cons_self
    refine ⟨h1.1.trans h.1, ?_⟩
    rw [h1.2]
    exact lk_same h.2 fun x hx => hf x (List.mem_cons_of_mem _ hx)
theorem ring_rev {E : List IP} {lot : List Int} (h : RingL E lot) (hin : ∀ s ∈ lot, s ∈ rngI E.length) : RingL (flipE (fun s => lot.contains s) E) lot := by
  obtain ⟨c, a, hc, lk⟩ := h.go
  have fl : ∀ s ∈ lot, sO (flipE (fun s => lot.contains s) E) s = eO E s ∧ eO (flipE (fun s => lot.contains s) E) s = sO E s := fun s hs => by
    have hcs : lot.contains s = true := List.contains_iff_mem.mpr hs
    have := flip_sO (p := fun s => lot.contains s) (hin s hs)
    rw [if_pos hcs, if_pos hcs] at this
    exact this
  refine ⟨h.ne, ?_, c.reverse, a, (List.reverse_perm c).trans hc, lk_rev lk fun s hs => fl s (hc.mem_iff.mp hs)⟩
  rw [List.map_congr_left fun s hs => (fl s hs).1]
  exact (ring_ends h).nodup_iff.mpr h.nd
/-- no street leads into the lot of towns -/
def NoIn (E : List IP) (f : Int → Bool) : Prop := ∀ s ∈ rngI E.length, f (eO E s) = true → f (sO E s) = true
theorem side_back {E : List IP} {f : Int → Bool} (h : NoIn E f) : ∀ {c : List Int} {a b : Int}, Lk E a c b → (∀ s ∈ c, s ∈ rngI E.length) → f b = true → f a = true ∧ ∀ s ∈ c, f (sO E s) = true
  | [], a, b, hl, _, hb => by cases (show a = b from hl); exact ⟨hb, fun s hs => (nomatch hs)⟩
  | s :: r, a, b, hl, hin, hb => by
    obtain ⟨h1, h2⟩ := side_back h hl.2 (fun x hx => hin x (List.mem_cons_of_mem _ hx)) hb
    have h3 := h s (hin s List.mem_cons_self) h1
    refine ⟨by rw [← hl.1]; exact h3, fun x hx => ?_⟩
    rcases List.mem_cons.mp hx with e | hx
    · rw [e]; exact h3
    · exact h2 x hx
/-- a ring stays on one side -/
theorem ring_side {E : List IP} {f : Int → Bool} {lot : List Int} (h : NoIn E f) (hr : RingL E lot) (hin : ∀ s ∈ lot, s ∈ rngI E.length) : ∀ s ∈ lot, f (sO E s) = f (eO E s) := by
  obtain ⟨c, a, hc, lk⟩ := hr.go
  intro s hs
  obtain ⟨r, pr, lkr⟩ := lk_rot lk (hc.mem_iff.mpr hs)
  have hin2 : ∀ x ∈ s :: r, x ∈ rngI E.length := fun x hx => hin x (hc.mem_iff.mp (pr.mem_iff.mp hx))
  cases h1 : f (eO E s) with
  | true => exact h s (hin s hs) h1
  | false =>
    cases h2 : f (sO E s) with
    | false => rfl
    | true =>
      exfalso
      have := (side_back h lkr.2 (fun x hx => hin2 x (List.mem_cons_of_mem _ hx)) h2).1
      rw [h1] at this
      cases this
theorem noIn_ring {E : List IP} {f : Int → Bool} {lot : List Int} (h : NoIn E f) (hr : RingL E lot) (hin : ∀ s ∈ lot, s ∈ rngI E.length) : NoIn (flipE (fun s => lot.contains s) E) f := by
  intro s hs he
  rw [flipE_len] at hs
  obtain ⟨h1, h2⟩ := flip_sO (p := fun s => lot.contains s) hs
  rw [h1]
  rw [h2] at he
  cases hc : lot.contains s with
  | true =>
    rw [hc, if_pos rfl] at he
    rw [if_pos rfl, ← ring_side h hr hin s (List.contains_iff_mem.mp hc)]
    exact he
  | false =>
    rw [hc, if_neg Bool.false_ne_true] at he
    rw [if_neg Bool.false_ne_true]
    exact h s hs he
theorem flip_flip (p : Int → Bool) (E : List IP) : flipE p (flipE p E) = E := by
  apply List.ext_getElem
  · rw [flipE_len, flipE_len]
  · intro j h1 h2
    have hr : (j : Int) ∈ rngI E.length := rngI_mem.mpr (by omega)
    have := flip_sO (p := p) hr
    have a := at_sO h2
    rw [flipE_at h1, this.1, this.2, a.1, a.2]
    cases p (j : Int) <;> rfl
theorem noIn_ring_iff {E : List IP} {f : Int → Bool} {lot : List Int} (hr : RingL E lot) (hin : ∀ s ∈ lot, s ∈ rngI E.length) : NoIn (flipE (fun s => lot.contains s) E) f ↔ NoIn E f := by
  refine ⟨fun h => ?_, fun h => noIn_ring h hr hin⟩
  have := noIn_ring h (ring_rev hr hin) (by rw [flipE_len]; exact hin)
  rwa [flip_flip] at this
/-! ### a shore turned -/
def crs (E : List IP) (f : Int → Bool) (s : Int) : Bool := f (sO E s) != f (eO E s)
theorem crs_flip {E : List IP} {f : Int → Bool} {p : Int → Bool} {s : Int} (h : s ∈ rngI E.length) : crs (flipE p E) f s = crs E f s := by
  obtain ⟨h1, h2⟩ := flip_sO (p := p) h
  unfold crs
  rw [h1, h2]
  cases p s
  · rfl
  · show (f (eO E s) != f (sO E s)) = _
    cases f (eO E s) <;> cases f (sO E s) <;> rfl
/-- rings lie off a shore's streets -/
theorem ring_off {E : List IP} {f : Int → Bool} {lot : List Int} (h : NoIn E f) (hr : RingL E lot) (hin : ∀ s ∈ lot, s ∈ rngI E.length) : RingL (flipE (crs E f) E) lot := by
  have sd := ring_side h hr hin
  have fl : ∀ s ∈ lot, sO (flipE (crs E f) E) s = sO E s ∧ eO (flipE (crs E f) E) s = eO E s := fun s hs => by
    have hc : crs E f s = false := by unfold crs; rw [sd s hs]; cases f (eO E s) <;> rfl
    have := flip_sO (p := crs E f) (hin s hs)
    rw [hc, if_neg Bool.false_ne_true, if_neg Bool.false_ne_true] at this
    exact this
  obtain ⟨c, a, hc, lk⟩ := hr.go
  refine ⟨hr.ne, ?_, c, a, hc, lk_same lk fun s hs => fl s (hc.mem_iff.mp hs)⟩
  rw [List.map_congr_left fun s hs => (fl s hs).1]
  exact hr.nd
/-- behind the turn no street leads into the rest -/
theorem noIn_rest {E : List IP} {f : Int → Bool} (h : NoIn E f) : NoIn (flipE (crs E f) E) fun t => !f t := by
  intro s hs he
  rw [flipE_len] at hs
  obtain ⟨h1, h2⟩ := flip_sO (p := crs E f) hs
  rw [h1]
  rw [h2] at he
  have h3 := h s hs
  cases hc : crs E f s with
  | true =>
    rw [hc, if_pos rfl] at he
    rw [if_pos rfl]
    unfold crs at hc
    cases a : f (sO E s) <;> cases b : f (eO E s) <;> simp_all
  | false =>
    rw [hc, if_neg Bool.false_ne_true] at he
    rw [if_neg Bool.false_ne_true]
    unfold crs at hc
    cases a : f (sO E s) <;> cases b : f (eO E s) <;> simp_all
theorem ring_off_iff {E : List IP} {f : Int → Bool} {lot : List Int} (h : NoIn E f) (hin : ∀ s ∈ lot, s ∈ rngI E.length) : RingL (flipE (crs E f) E) lot ↔ RingL E lot := by
  refine ⟨fun hr => ?_, fun hr => ring_off h hr hin⟩
  have h1 := ring_off (noIn_rest h) hr (by rw [flipE_len]; exact hin)
  have e : flipE (crs (flipE (crs E f) E) fun t => !f t) (flipE (crs E f) E) = flipE (crs E f) (flipE (crs E f) E) := by
    refine flipE_congr fun s hs => ?_
    rw [flipE_len] at hs
    rw [crs_flip hs]
    show ((!f (sO E s)) != (!f (eO E s))) = (f (sO E s) != f (eO E s))
    cases f (sO E s) <;> cases f (eO E s) <;> rfl
  rw [e, flip_flip] at h1
  exact h1
theorem ringsL_off {E : List IP} {f : Int → Bool} {m : Int} (hE : ∀ s ∈ rngI E.length, (0 ≤ sO E s ∧ sO E s < m) ∧ 0 ≤ eO E s ∧ eO E s < m) (h : NoIn E f) : ringsL (flipE (crs E f) E) m = ringsL E m := by
  have hE1 : ∀ s ∈ rngI E.length, 0 ≤ sO E s ∧ sO E s < m := fun s hs => (hE s hs).1
  have hE2 : ∀ s ∈ rngI (flipE (crs E f) E).length, 0 ≤ sO (flipE (crs E f) E) s ∧ sO (flipE (crs E f) E) s < m := fun s hs => by
    rw [flipE_len] at hs
    rw [(flip_sO hs).1]
    have := hE s hs
    split
    · exact this.2
    · exact this.1
  refine sortL_eq ((List.perm_ext_iff_of_nodup (ringsR_nodup hE2) (ringsR_nodup hE1)).mpr fun lot => ?_)
  rw [ringsR_mem hE2, ringsR_mem hE1, flipE_len]
  constructor
  · rintro ⟨h1, h2, h3⟩
    exact ⟨h1, h2, (ring_off_iff h h2).mp h3⟩
  · rintro ⟨h1, h2, h3⟩
    exact ⟨h1, h2, (ring_off_iff h h2).mpr h3⟩
/-! ### signings turned -/
def turnS (p : Int → Bool) (sg : List Int) : List Int := sg.zipIdx.map fun q => if p (q.2 : Nat) = true then 1 - q.1 else q.1
theorem turnS_len (p : Int → Bool) (sg : List Int) : (turnS p sg).length = sg.length := by unfold turnS; simp
theorem turnS_at {p : Int → Bool} {sg : List Int} {j : Nat} (h : j < (turnS p sg).length) (h2 : j < sg.length) : (turnS p sg)[j] = if p (j : Int) = true then 1 - sg[j] else sg[j] := by
  have e : (turnS p sg)[j]? = some (if p (j : Int) = true then 1 - sg[j] else sg[j]) := by
    unfold turnS
    simp [h2]
  rw [List.getElem?_eq_getElem h] at e
  exact Option.some.inj e
theorem turn_turn {p q : Int → Bool} {sg : List Int} (h : ∀ j : Nat, j < sg.length → p (j : Int) = q (j : Int)) : turnS q (turnS p sg) = sg := by
  apply List.ext_getElem
  · rw [turnS_len, turnS_len]
  · intro j h1 h2
    rw [turnS_at h1 (by rw [turnS_len]; exact h2), turnS_at (by rw [turnS_len]; exact h2) h2, h j h2]
    cases q (j : Int)
    · rfl
    · show 1 - (1 - sg[j]) = sg[j]
      omega
end PV
namespace LW
open PySem PySem.Spec PyProof.Rows L2 PV

def topS (i : Nat) : Stmt := PySem.Challenge.pw_ringshores_k26_rings_and_shores_by_hand.main.body.getD i (.Pass ⟨0, 0, 0, 0⟩)
def csT : Str → Option PyData := fun x => if x = "MOST_TOWNS" then some (.int (6)) else if x = "MOST_STREETS" then some (.int (9)) else none
def dsT : Str → Option (Str → Option PyData) := fun x => none
def frL : List Str := ["all", "bool", "enumerate", "int", "isinstance", "len", "list", "max", "min", "range", "sorted", "sum", "tuple", "zip"]
def frT (x : Str) : Bool := frL.any fun y => decide (y = x)
def ecL : List Str := ["ShoreError"]
def ecT (x : Str) : Bool := ecL.any fun y => decide (y = x)
/-! is_whole -/
abbrev s_is_whole : Stmt := topS 8
def N_is_whole : List Str := ["thing"]
def p_is_whole : List Str := ["thing"]
theorem S_is_whole : FnScope N_is_whole p_is_whole (defScope s_is_whole) := ⟨rfl, rfl, rfl, by decide +kernel, rfl, by decide +kernel, by decide +kernel⟩
def t_is_whole : Str → Option (Nat × Bool × Fn) := fun x => none
def k_is_whole : Str → List Str → Option (List Nat) := fun x kn => none
def C_is_whole : Cc := { N := N_is_whole, io := false, sc := defScope s_is_whole, fn := fun _ => true, fs := t_is_whole, cs := csT, fr := frT, xs := fun _ => false, wn := 4096, ks := k_is_whole, ec := ecT, ds := dsT }
def g_is_whole : Ev → Fl :=
  fRet (fAndV (fIsi "int" (fVar 0)) (fNotV (fIsi "bool" (fVar 0))))
theorem e_is_whole : blkS (sts 60 (C_is_whole) 60) (defBody s_is_whole) = g_is_whole := by kernel_rfl
def F_is_whole : Fn := ⟨false, runB false 1 g_is_whole⟩
/-! is_below -/
abbrev s_is_below : Stmt := topS 9
def N_is_below : List Str := ["thing", "bound"]
def p_is_below : List Str := ["thing", "bound"]
theorem S_is_below : FnScope N_is_below p_is_below (defScope s_is_below) := ⟨rfl, rfl, rfl, by decide +kernel, rfl, by decide +kernel, by decide +kernel⟩
def t_is_below : Str → Option (Nat × Bool × Fn) := fun x => if x = "is_whole" then some (1, false, F_is_whole) else none
def k_is_below : Str → List Str → Option (List Nat) := fun x kn => none
def C_is_below : Cc := { N := N_is_below, io := false, sc := defScope s_is_below, fn := fun _ => true, fs := t_is_below, cs := csT, fr := frT, xs := fun _ => false, wn := 4096, ks := k_is_below, ec := ecT, ds := dsT }
def g_is_below : Ev → Fl :=
  fRet (fAndV (fFn F_is_whole (fCons (fun e => shr false ((fVar 0) e)) (fNil))) (fChain gLe gLt (fC (.int 0)) (fVar 0) (fVar 1)))
theorem e_is_below : blkS (sts 60 (C_is_below) 60) (defBody s_is_below) = g_is_below := by kernel_rfl
def F_is_below : Fn := ⟨false, runB false 2 g_is_below⟩
/-! is_pair -/
abbrev s_is_pair : Stmt := topS 10
def N_is_pair : List Str := ["thing"]
def p_is_pair : List Str := ["thing"]
theorem S_is_pair : FnScope N_is_pair p_is_pair (defScope s_is_pair) := ⟨rfl, rfl, rfl, by decide +kernel, rfl, by decide +kernel, by decide +kernel⟩
def t_is_pair : Str → Option (Nat × Bool × Fn) := fun x => none
def k_is_pair : Str → List Str → Option (List Nat) := fun x kn => none
def C_is_pair : Cc := { N := N_is_pair, io := false, sc := defScope s_is_pair, fn := fun _ => true, fs := t_is_pair, cs := csT, fr := frT, xs := fun _ => false, wn := 4096, ks := k_is_pair, ec := ecT, ds := dsT }
def g_is_pair : Ev → Fl :=
  fRet (fAndV (fIsi "tuple" (fVar 0)) (fBin gEqE (fCal gLen (fCons (fVar 0) fNil)) (fC (.int 2))))
theorem e_is_pair : blkS (sts 60 (C_is_pair) 60) (defBody s_is_pair) = g_is_pair := by kernel_rfl
def F_is_pair : Fn := ⟨false, runB false 1 g_is_pair⟩
/-! is_triple -/
abbrev s_is_triple : Stmt := topS 11
def N_is_triple : List Str := ["thing"]
def p_is_triple : List Str := ["thing"]
theorem S_is_triple : FnScope N_is_triple p_is_triple (defScope s_is_triple) := ⟨rfl, rfl, rfl, by decide +kernel, rfl, by decide +kernel, by decide +kernel⟩
def t_is_triple : Str → Option (Nat × Bool × Fn) := fun x => none
def k_is_triple : Str → List Str → Option (List Nat) := fun x kn => none
def C_is_triple : Cc := { N := N_is_triple, io := false, sc := defScope s_is_triple, fn := fun _ => true, fs := t_is_triple, cs := csT, fr := frT, xs := fun _ => false, wn := 4096, ks := k_is_triple, ec := ecT, ds := dsT }
def g_is_triple : Ev → Fl :=
  fRet (fAndV (fIsi "tuple" (fVar 0)) (fBin gEqE (fCal gLen (fCons (fVar 0) fNil)) (fC (.int 3))))
theorem e_is_triple : blkS (sts 60 (C_is_triple) 60) (defBody s_is_triple) = g_is_triple := by kernel_rfl
def F_is_triple : Fn := ⟨false, runB false 1 g_is_triple⟩
/-! is_street -/
abbrev s_is_street : Stmt := topS 12
def N_is_street : List Str := ["many", "thing", "one", "other"]
def p_is_street : List Str := ["many", "thing"]
theorem S_is_street : FnScope N_is_street p_is_street (defScope s_is_street) := ⟨rfl, rfl, rfl, by decide +kernel, rfl, by decide +kernel, by decide +kernel⟩
def t_is_street : Str → Option (Nat × Bool × Fn) := fun x => if x = "is_pair" then some (1, false, F_is_pair) else if x = "is_below" then some (2, false, F_is_below) else none
def k_is_street : Str → List Str → Option (List Nat) := fun x kn => none
def C_is_street : Cc := { N := N_is_street, io := false, sc := defScope s_is_street, fn := fun _ => true, fs := t_is_street, cs := csT, fr := frT, xs := fun _ => false, wn := 4096, ks := k_is_street, ec := ecT, ds := dsT }
def g_is_street : Ev → Fl :=
  fSq (fIfS (fNotB (fTru (fFn F_is_pair (fCons (fun e => shr false ((fVar 1) e)) (fNil)))))
    (fRet (fC (.bool false)))
    (Fl.nx)) <|
  fSq (fAsgT (tgTup 2 (tgCons (tgN false 2) (tgCons (tgN false 3) (tgNil)))) (fun e => shr false ((fVar 1) e))) <|
  fRet (fAndV (fFn F_is_below (fCons (fun e => shr false ((fVar 2) e)) (fCons (fun e => shr false ((fVar 0) e)) (fNil)))) (fAndV (fFn F_is_below (fCons (fun e => shr false ((fVar 3) e)) (fCons (fun e => shr false ((fVar 0) e)) (fNil)))) (fBin gLt (fVar 2) (fVar 3))))
theorem e_is_street : blkS (sts 60 (C_is_street) 60) (defBody s_is_street) = g_is_street := by kernel_rfl
def F_is_street : Fn := ⟨false, runB false 4 g_is_street⟩
/-! are_streets -/
abbrev s_are_streets : Stmt := topS 13
def N_are_streets : List Str := ["many", "thing", "street", "ahead"]
def p_are_streets : List Str := ["many", "thing"]
theorem S_are_streets : FnScope N_are_streets p_are_streets (defScope s_are_streets) := ⟨rfl, rfl, rfl, by decide +kernel, rfl, by decide +kernel, by decide +kernel⟩
def t_are_streets : Str → Option (Nat × Bool × Fn) := fun x => if x = "is_street" then some (2, false, F_is_street) else none
def k_are_streets : Str → List Str → Option (List Nat) := fun x kn => none
def C_are_streets : Cc := { N := N_are_streets, io := false, sc := defScope s_are_streets, fn := fun _ => true, fs := t_are_streets, cs := csT, fr := frT, xs := fun _ => false, wn := 4096, ks := k_are_streets, ec := ecT, ds := dsT }
def g_are_streets : Ev → Fl :=
  fSq (fIfS (fOrB (fNotB (fTru (fIsi "tuple" (fVar 1)))) (fTB (fBin gGt (fCal gLen (fCons (fVar 1) fNil)) (fC (.int 9)))))
    (fRet (fC (.bool false)))
    (Fl.nx)) <|
  fSq (fIfS (fNotB (fTru (fCal gAll (fCons (fLc false [2] (fSeq false (fVar 1)) (tgN false 2) (fun e => .ok true e) (fFn F_is_street (fCons (fun e => shr false ((fVar 0) e)) (fCons (fun e => shr false ((fVar 2) e)) (fNil))))) fNil))))
    (fRet (fC (.bool false)))
    (Fl.nx)) <|
  fRet (fCal gAll (fCons (fLc false [3, 2] (fZip (fCons (fVar 1) (fCons (fSl (fVar 1) (fPart (fC (.int 1))) fNoP) fNil))) (tgTup 2 (tgCons (tgN false 3) (tgCons (tgN false 2) (tgNil)))) (fun e => .ok true e) (fBin gLe (fVar 3) (fVar 2))) fNil))
theorem e_are_streets : blkS (sts 60 (C_are_streets) 60) (defBody s_are_streets) = g_are_streets := by kernel_rfl
def F_are_streets : Fn := ⟨false, runB false 4 g_are_streets⟩
/-! ways_from -/
abbrev s_ways_from : Stmt := topS 14
def N_ways_from : List Str := ["town", "paths", "ways", "waiting", "here", "place", "start", "end"]
def p_ways_from : List Str := ["town", "paths"]
theorem S_ways_from : FnScope N_ways_from p_ways_from (defScope s_ways_from) := ⟨rfl, rfl, rfl, by decide +kernel, rfl, by decide +kernel, by decide +kernel⟩
def t_ways_from : Str → Option (Nat × Bool × Fn) := fun x => none
def k_ways_from : Str → List Str → Option (List Nat) := fun x kn => none
def C_ways_from : Cc := { N := N_ways_from, io := false, sc := defScope s_ways_from, fn := fun _ => true, fs := t_ways_from, cs := csT, fr := frT, xs := fun _ => false, wn := 4096, ks := k_ways_from, ec := ecT, ds := dsT }
def g_ways_from : Ev → Fl :=
  fSq (fAsg false 2 (fun e => shrS false ((fDct1 false (fVar 0) (fTup (fNil))) e))) <|
  fSq (fAsg false 3 (fun e => shrS false ((fLst (fCons (fun e => shr false ((fVar 0) e)) (fNil))) e))) <|
  fSq (whileL (fTru (fVar 3))
    (fSq (fAsg false 4 (fun e => shrS false ((fMth 3 gPopAt (fCons (fC (.int 0)) fNil)) e))) <|
      fFor (tgTup 2 (tgCons (tgN false 5) (tgCons (tgTup 2 (tgCons (tgN false 6) (tgCons (tgN false 7) (tgNil)))) (tgNil)))) (fEnum (fCons (fun e => shr false ((fVar 1) e)) (fNil)))
      (fIfS (fAndB (fTB (fBin gEqE (fVar 6) (fVar 4))) (fTB (fBin (gIn true) (fVar 7) (fVar 2))))
        (fSq (fPut false 2 (fBin gAdd (fBin gIx (fVar 2) (fVar 4)) (fTup (fCons (fun e => shr false ((fVar 5) e)) (fNil)))) (fVar 7)) <|
          fExp (fMth 3 gApp (fCons (fun e => shr false ((fVar 7) e)) (fNil))))
        (Fl.nx))) 4096) <|
  fRet (fVar 2)
theorem e_ways_from : blkS (sts 60 (C_ways_from) 60) (defBody s_ways_from) = g_ways_from := by kernel_rfl
def F_ways_from : Fn := ⟨false, runB false 8 g_ways_from⟩
/-! towns_from -/
abbrev s_towns_from : Stmt := topS 15
def N_towns_from : List Str := ["town", "paths"]
def p_towns_from : List Str := ["town", "paths"]
theorem S_towns_from : FnScope N_towns_from p_towns_from (defScope s_towns_from) := ⟨rfl, rfl, rfl, by decide +kernel, rfl, by decide +kernel, by decide +kernel⟩
def t_towns_from : Str → Option (Nat × Bool × Fn) := fun x => if x = "ways_from" then some (2, false, F_ways_from) else none
def k_towns_from : Str → List Str → Option (List Nat) := fun x kn => none
def C_towns_from : Cc := { N := N_towns_from, io := false, sc := defScope s_towns_from, fn := fun _ => true, fs := t_towns_from, cs := csT, fr := frT, xs := fun _ => false, wn := 4096, ks := k_towns_from, ec := ecT, ds := dsT }
def g_towns_from : Ev → Fl :=
  fRet (fCal gTuple (fCons (fCal gSorted (fCons (fFn F_ways_from (fCons (fun e => shr false ((fVar 0) e)) (fCons (fun e => shr false ((fVar 1) e)) (fNil)))) fNil)) fNil))
theorem e_towns_from : blkS (sts 60 (C_towns_from) 60) (defBody s_towns_from) = g_towns_from := by kernel_rfl
def F_towns_from : Fn := ⟨false, runB false 2 g_towns_from⟩
/-! both_ways -/
abbrev s_both_ways : Stmt := topS 16
def N_both_ways : List Str := ["streets", "one", "other"]
def p_both_ways : List Str := ["streets"]
theorem S_both_ways : FnScope N_both_ways p_both_ways (defScope s_both_ways) := ⟨rfl, rfl, rfl, by decide +kernel, rfl, by decide +kernel, by decide +kernel⟩
def t_both_ways : Str → Option (Nat × Bool × Fn) := fun x => none
def k_both_ways : Str → List Str → Option (List Nat) := fun x kn => none
def C_both_ways : Cc := { N := N_both_ways, io := false, sc := defScope s_both_ways, fn := fun _ => true, fs := t_both_ways, cs := csT, fr := frT, xs := fun _ => false, wn := 4096, ks := k_both_ways, ec := ecT, ds := dsT }
def g_both_ways : Ev → Fl :=
  fRet (fBin gAdd (fCal gList (fCons (fVar 0) fNil)) (fLc false [1, 2] (fSeq false (fVar 0)) (tgTup 2 (tgCons (tgN false 1) (tgCons (tgN false 2) (tgNil)))) (fun e => .ok true e) (fTup (fCons (fun e => shr false ((fVar 2) e)) (fCons (fun e => shr false ((fVar 1) e)) (fNil))))))
theorem e_both_ways : blkS (sts 60 (C_both_ways) 60) (defBody s_both_ways) = g_both_ways := by kernel_rfl
def F_both_ways : Fn := ⟨false, runB false 3 g_both_ways⟩
/-! hang_together -/
abbrev s_hang_together : Stmt := topS 17
def N_hang_together : List Str := ["many", "streets"]
def p_hang_together : List Str := ["many", "streets"]
theorem S_hang_together : FnScope N_hang_together p_hang_together (defScope s_hang_together) := ⟨rfl, rfl, rfl, by decide +kernel, rfl, by decide +kernel, by decide +kernel⟩
def t_hang_together : Str → Option (Nat × Bool × Fn) := fun x => if x = "towns_from" then some (2, false, F_towns_from) else if x = "both_ways" then some (1, false, F_both_ways) else none
def k_hang_together : Str → List Str → Option (List Nat) := fun x kn => none
def C_hang_together : Cc := { N := N_hang_together, io := false, sc := defScope s_hang_together, fn := fun _ => true, fs := t_hang_together, cs := csT, fr := frT, xs := fun _ => false, wn := 4096, ks := k_hang_together, ec := ecT, ds := dsT }
def g_hang_together : Ev → Fl :=
  fRet (fBin gEqE (fCal gLen (fCons (fFn F_towns_from (fCons (fun e => shr false ((fC (.int 0)) e)) (fCons (fun e => shr false ((fFn F_both_ways (fCons (fun e => shr false ((fVar 1) e)) (fNil))) e)) (fNil)))) fNil)) (fVar 0))
theorem e_hang_together : blkS (sts 60 (C_hang_together) 60) (defBody s_hang_together) = g_hang_together := by kernel_rfl
def F_hang_together : Fn := ⟨false, runB false 2 g_hang_together⟩
/-! is_plan -/
abbrev s_is_plan : Stmt := topS 18
def N_is_plan : List Str := ["thing", "many", "streets"]
def p_is_plan : List Str := ["thing"]
theorem S_is_plan : FnScope N_is_plan p_is_plan (defScope s_is_plan) := ⟨rfl, rfl, rfl, by decide +kernel, rfl, by decide +kernel, by decide +kernel⟩
def t_is_plan : Str → Option (Nat × Bool × Fn) := fun x => if x = "is_pair" then some (1, false, F_is_pair) else if x = "are_streets" then some (2, false, F_are_streets) else if x = "hang_together" then some (2, false, F_hang_together) else if x = "is_below" then some (2, false, F_is_below) else none
def k_is_plan : Str → List Str → Option (List Nat) := fun x kn => none
def C_is_plan : Cc := { N := N_is_plan, io := false, sc := defScope s_is_plan, fn := fun _ => true, fs := t_is_plan, cs := csT, fr := frT, xs := fun _ => false, wn := 4096, ks := k_is_plan, ec := ecT, ds := dsT }
def g_is_plan : Ev → Fl :=
  fSq (fIfS (fNotB (fTru (fFn F_is_pair (fCons (fun e => shr false ((fVar 0) e)) (fNil)))))
    (fRet (fC (.bool false)))
    (Fl.nx)) <|
  fSq (fAsgT (tgTup 2 (tgCons (tgN false 1) (tgCons (tgN false 2) (tgNil)))) (fun e => shr false ((fVar 0) e))) <|
  fSq (fIfS (fOrB (fNotB (fTru (fFn F_is_below (fCons (fun e => shr false ((fVar 1) e)) (fCons (fun e => shr false ((fBin gAdd (fC (.int 6)) (fC (.int 1))) e)) (fNil)))))) (fTB (fBin gEqE (fVar 1) (fC (.int 0)))))
    (fRet (fC (.bool false)))
    (Fl.nx)) <|
  fRet (fAndV (fFn F_are_streets (fCons (fun e => shr false ((fVar 1) e)) (fCons (fun e => shr false ((fVar 2) e)) (fNil)))) (fFn F_hang_together (fCons (fun e => shr false ((fVar 1) e)) (fCons (fun e => shr false ((fVar 2) e)) (fNil)))))
theorem e_is_plan : blkS (sts 60 (C_is_plan) 60) (defBody s_is_plan) = g_is_plan := by kernel_rfl
def F_is_plan : Fn := ⟨false, runB false 3 g_is_plan⟩
/-! need_plan -/
abbrev s_need_plan : Stmt := topS 19
def N_need_plan : List Str := ["plan"]
def p_need_plan : List Str := ["plan"]
theorem S_need_plan : FnScope N_need_plan p_need_plan (defScope s_need_plan) := ⟨rfl, rfl, rfl, by decide +kernel, rfl, by decide +kernel, by decide +kernel⟩
def t_need_plan : Str → Option (Nat × Bool × Fn) := fun x => if x = "is_plan" then some (1, false, F_is_plan) else none
def k_need_plan : Str → List Str → Option (List Nat) := fun x kn => none
def C_need_plan : Cc := { N := N_need_plan, io := false, sc := defScope s_need_plan, fn := fun _ => true, fs := t_need_plan, cs := csT, fr := frT, xs := fun _ => false, wn := 4096, ks := k_need_plan, ec := ecT, ds := dsT }
def g_need_plan : Ev → Fl :=
  fIfS (fNotB (fTru (fFn F_is_plan (fCons (fun e => shr false ((fVar 0) e)) (fNil)))))
  (sBad)
  (Fl.nx)
theorem e_need_plan : blkS (sts 60 (C_need_plan) 60) (defBody s_need_plan) = g_need_plan := by kernel_rfl
def F_need_plan : Fn := ⟨false, runB false 1 g_need_plan⟩
/-! is_signing -/
abbrev s_is_signing : Stmt := topS 20
def N_is_signing : List Str := ["plan", "thing", "sign"]
def p_is_signing : List Str := ["plan", "thing"]
theorem S_is_signing : FnScope N_is_signing p_is_signing (defScope s_is_signing) := ⟨rfl, rfl, rfl, by decide +kernel, rfl, by decide +kernel, by decide +kernel⟩
def t_is_signing : Str → Option (Nat × Bool × Fn) := fun x => if x = "need_plan" then some (1, false, F_need_plan) else if x = "is_below" then some (2, false, F_is_below) else none
def k_is_signing : Str → List Str → Option (List Nat) := fun x kn => none
def C_is_signing : Cc := { N := N_is_signing, io := false, sc := defScope s_is_signing, fn := fun _ => true, fs := t_is_signing, cs := csT, fr := frT, xs := fun _ => false, wn := 4096, ks := k_is_signing, ec := ecT, ds := dsT }
def g_is_signing : Ev → Fl :=
  fSq (fExp (fFn F_need_plan (fCons (fun e => shr false ((fVar 0) e)) (fNil)))) <|
  fSq (fIfS (fOrB (fNotB (fTru (fIsi "tuple" (fVar 1)))) (fTB (fBin (gEq true) (fCal gLen (fCons (fVar 1) fNil)) (fCal gLen (fCons (fBin gIx (fVar 0) (fC (.int 1))) fNil)))))
    (fRet (fC (.bool false)))
    (Fl.nx)) <|
  fRet (fCal gAll (fCons (fLc false [2] (fSeq false (fVar 1)) (tgN false 2) (fun e => .ok true e) (fFn F_is_below (fCons (fun e => shr false ((fVar 2) e)) (fCons (fun e => shr false ((fC (.int 2)) e)) (fNil))))) fNil))
theorem e_is_signing : blkS (sts 60 (C_is_signing) 60) (defBody s_is_signing) = g_is_signing := by kernel_rfl
def F_is_signing : Fn := ⟨false, runB false 3 g_is_signing⟩
/-! need_signing -/
abbrev s_need_signing : Stmt := topS 21
def N_need_signing : List Str := ["plan", "signing"]
def p_need_signing : List Str := ["plan", "signing"]
theorem S_need_signing : FnScope N_need_signing p_need_signing (defScope s_need_signing) := ⟨rfl, rfl, rfl, by decide +kernel, rfl, by decide +kernel, by decide +kernel⟩
def t_need_signing : Str → Option (Nat × Bool × Fn) := fun x => if x = "is_signing" then some (2, false, F_is_signing) else none
def k_need_signing : Str → List Str → Option (List Nat) := fun x kn => none
def C_need_signing : Cc := { N := N_need_signing, io := false, sc := defScope s_need_signing, fn := fun _ => true, fs := t_need_signing, cs := csT, fr := frT, xs := fun _ => false, wn := 4096, ks := k_need_signing, ec := ecT, ds := dsT }
def g_need_signing : Ev → Fl :=
  fIfS (fNotB (fTru (fFn F_is_signing (fCons (fun e => shr false ((fVar 0) e)) (fCons (fun e => shr false ((fVar 1) e)) (fNil))))))
  (sBad)
  (Fl.nx)
theorem e_need_signing : blkS (sts 60 (C_need_signing) 60) (defBody s_need_signing) = g_need_signing := by kernel_rfl
def F_need_signing : Fn := ⟨false, runB false 2 g_need_signing⟩
/-! need_signings -/
abbrev s_need_signings : Stmt := topS 22
def N_need_signings : List Str := ["plan", "one", "other"]
def p_need_signings : List Str := ["plan", "one", "other"]
theorem S_need_signings : FnScope N_need_signings p_need_signings (defScope s_need_signings) := ⟨rfl, rfl, rfl, by decide +kernel, rfl, by decide +kernel, by decide +kernel⟩
def t_need_signings : Str → Option (Nat × Bool × Fn) := fun x => if x = "need_signing" then some (2, false, F_need_signing) else none
def k_need_signings : Str → List Str → Option (List Nat) := fun x kn => none
def C_need_signings : Cc := { N := N_need_signings, io := false, sc := defScope s_need_signings, fn := fun _ => true, fs := t_need_signings, cs := csT, fr := frT, xs := fun _ => false, wn := 4096, ks := k_need_signings, ec := ecT, ds := dsT }
def g_need_signings : Ev → Fl :=
  fSq (fExp (fFn F_need_signing (fCons (fun e => shr false ((fVar 0) e)) (fCons (fun e => shr false ((fVar 1) e)) (fNil))))) <|
  fExp (fFn F_need_signing (fCons (fun e => shr false ((fVar 0) e)) (fCons (fun e => shr false ((fVar 2) e)) (fNil))))
theorem e_need_signings : blkS (sts 60 (C_need_signings) 60) (defBody s_need_signings) = g_need_signings := by kernel_rfl
def F_need_signings : Fn := ⟨false, runB false 3 g_need_signings⟩
/-! paths_of -/
abbrev s_paths_of : Stmt := topS 23
def N_paths_of : List Str := ["plan", "signing", "sign", "one", "other"]
def p_paths_of : List Str := ["plan", "signing"]
theorem S_paths_of : FnScope N_paths_of p_paths_of (defScope s_paths_of) := ⟨rfl, rfl, rfl, by decide +kernel, rfl, by decide +kernel, by decide +kernel⟩
def t_paths_of : Str → Option (Nat × Bool × Fn) := fun x => none
def k_paths_of : Str → List Str → Option (List Nat) := fun x kn => none
def C_paths_of : Cc := { N := N_paths_of, io := false, sc := defScope s_paths_of, fn := fun _ => true, fs := t_paths_of, cs := csT, fr := frT, xs := fun _ => false, wn := 4096, ks := k_paths_of, ec := ecT, ds := dsT }
def g_paths_of : Ev → Fl :=
  fRet (fLc false [2, 3, 4] (fZip (fCons (fVar 1) (fCons (fBin gIx (fVar 0) (fC (.int 1))) fNil))) (tgTup 2 (tgCons (tgN false 2) (tgCons (tgTup 2 (tgCons (tgN false 3) (tgCons (tgN false 4) (tgNil)))) (tgNil)))) (fun e => .ok true e) (fIf (fTB (fBin gEqE (fVar 2) (fC (.int 1)))) (fTup (fCons (fun e => shr false ((fVar 4) e)) (fCons (fun e => shr false ((fVar 3) e)) (fNil)))) (fTup (fCons (fun e => shr false ((fVar 3) e)) (fCons (fun e => shr false ((fVar 4) e)) (fNil))))))
theorem e_paths_of : blkS (sts 60 (C_paths_of) 60) (defBody s_paths_of) = g_paths_of := by kernel_rfl
def F_paths_of : Fn := ⟨false, runB false 5 g_paths_of⟩
/-! outs_of -/
abbrev s_outs_of : Stmt := topS 24
def N_outs_of : List Str := ["plan", "signing", "starts", "path", "town"]
def p_outs_of : List Str := ["plan", "signing"]
theorem S_outs_of : FnScope N_outs_of p_outs_of (defScope s_outs_of) := ⟨rfl, rfl, rfl, by decide +kernel, rfl, by decide +kernel, by decide +kernel⟩
def t_outs_of : Str → Option (Nat × Bool × Fn) := fun x => if x = "paths_of" then some (2, false, F_paths_of) else none
def k_outs_of : Str → List Str → Option (List Nat) := fun x kn => none
def C_outs_of : Cc := { N := N_outs_of, io := false, sc := defScope s_outs_of, fn := fun _ => true, fs := t_outs_of, cs := csT, fr := frT, xs := fun _ => false, wn := 4096, ks := k_outs_of, ec := ecT, ds := dsT }
def g_outs_of : Ev → Fl :=
  fSq (fAsg false 2 (fun e => shrS false ((fLc false [3] (fSeq false (fFn F_paths_of (fCons (fun e => shr false ((fVar 0) e)) (fCons (fun e => shr false ((fVar 1) e)) (fNil))))) (tgN false 3) (fun e => .ok true e) (fBin gIx (fVar 3) (fC (.int 0)))) e))) <|
  fRet (fCal gTuple (fCons (fLc false [4] (fRng1 (fCons (fBin gIx (fVar 0) (fC (.int 0))) fNil)) (tgN false 4) (fun e => .ok true e) (fMthR 2 gCnt (fCons (fVar 4) fNil))) fNil))
theorem e_outs_of : blkS (sts 60 (C_outs_of) 60) (defBody s_outs_of) = g_outs_of := by kernel_rfl
def F_outs_of : Fn := ⟨false, runB false 5 g_outs_of⟩
/-! outs -/
abbrev s_outs : Stmt := topS 25
def N_outs : List Str := ["plan", "signing"]
def p_outs : List Str := ["plan", "signing"]
theorem S_outs : FnScope N_outs p_outs (defScope s_outs) := ⟨rfl, rfl, rfl, by decide +kernel, rfl, by decide +kernel, by decide +kernel⟩
def t_outs : Str → Option (Nat × Bool × Fn) := fun x => if x = "need_signing" then some (2, false, F_need_signing) else if x = "outs_of" then some (2, false, F_outs_of) else none
def k_outs : Str → List Str → Option (List Nat) := fun x kn => none
def C_outs : Cc := { N := N_outs, io := false, sc := defScope s_outs, fn := fun _ => true, fs := t_outs, cs := csT, fr := frT, xs := fun _ => false, wn := 4096, ks := k_outs, ec := ecT, ds := dsT }
def g_outs : Ev → Fl :=
  fSq (fExp (fFn F_need_signing (fCons (fun e => shr false ((fVar 0) e)) (fCons (fun e => shr false ((fVar 1) e)) (fNil))))) <|
  fRet (fFn F_outs_of (fCons (fun e => shr false ((fVar 0) e)) (fCons (fun e => shr false ((fVar 1) e)) (fNil))))
theorem e_outs : blkS (sts 60 (C_outs) 60) (defBody s_outs) = g_outs := by kernel_rfl
def F_outs : Fn := ⟨false, runB false 2 g_outs⟩
/-! is_rising -/
abbrev s_is_rising : Stmt := topS 27
def N_is_rising : List Str := ["thing", "bound", "part", "ahead"]
def p_is_rising : List Str := ["thing", "bound"]
theorem S_is_rising : FnScope N_is_rising p_is_rising (defScope s_is_rising) := ⟨rfl, rfl, rfl, by decide +kernel, rfl, by decide +kernel, by decide +kernel⟩
def t_is_rising : Str → Option (Nat × Bool × Fn) := fun x => if x = "is_below" then some (2, false, F_is_below) else none
def k_is_rising : Str → List Str → Option (List Nat) := fun x kn => none
def C_is_rising : Cc := { N := N_is_rising, io := false, sc := defScope s_is_rising, fn := fun _ => true, fs := t_is_rising, cs := csT, fr := frT, xs := fun _ => false, wn := 4096, ks := k_is_rising, ec := ecT, ds := dsT }
def g_is_rising : Ev → Fl :=
  fSq (fIfS (fOrB (fNotB (fTru (fIsi "tuple" (fVar 0)))) (fNotB (fTru (fCal gAll (fCons (fLc false [2] (fSeq false (fVar 0)) (tgN false 2) (fun e => .ok true e) (fFn F_is_below (fCons (fun e => shr false ((fVar 2) e)) (fCons (fun e => shr false ((fVar 1) e)) (fNil))))) fNil)))))
    (fRet (fC (.bool false)))
    (Fl.nx)) <|
  fRet (fCal gAll (fCons (fLc false [3, 2] (fZip (fCons (fVar 0) (fCons (fSl (fVar 0) (fPart (fC (.int 1))) fNoP) fNil))) (tgTup 2 (tgCons (tgN false 3) (tgCons (tgN false 2) (tgNil)))) (fun e => .ok true e) (fBin gLt (fVar 3) (fVar 2))) fNil))
theorem e_is_rising : blkS (sts 60 (C_is_rising) 60) (defBody s_is_rising) = g_is_rising := by kernel_rfl
def F_is_rising : Fn := ⟨false, runB false 4 g_is_rising⟩
/-! lead_round -/
abbrev s_lead_round : Stmt := topS 28
def N_lead_round : List Str := ["paths", "onward", "start", "end", "first", "here", "met"]
def p_lead_round : List Str := ["paths"]
theorem S_lead_round : FnScope N_lead_round p_lead_round (defScope s_lead_round) := ⟨rfl, rfl, rfl, by decide +kernel, rfl, by decide +kernel, by decide +kernel⟩
def t_lead_round : Str → Option (Nat × Bool × Fn) := fun x => none
def k_lead_round : Str → List Str → Option (List Nat) := fun x kn => none
def C_lead_round : Cc := { N := N_lead_round, io := false, sc := defScope s_lead_round, fn := fun _ => true, fs := t_lead_round, cs := csT, fr := frT, xs := fun _ => false, wn := 4096, ks := k_lead_round, ec := ecT, ds := dsT }
def g_lead_round : Ev → Fl :=
  fSq (fAsg false 1 (fDc false [2, 3] (fSeq false (fVar 0)) (tgTup 2 (tgCons (tgN false 2) (tgCons (tgN false 3) (tgNil)))) (fun e => .ok true e) (fVar 2) (fVar 3))) <|
  fSq (fAsg false 4 (fun e => shrS false ((fBin gIx (fBin gIx (fVar 0) (fC (.int 0))) (fC (.int 0))) e))) <|
  fSq (fAsg false 5 (fun e => shrS false ((fVar 4) e))) <|
  fSq (fAsg false 6 (fun e => shrS false ((fLst (fNil)) e))) <|
  fSq (whileL (fAndB (fTB (fBin (gIn false) (fVar 5) (fVar 1))) (fTB (fBin (gIn true) (fVar 5) (fVar 6))))
    (fSq (fExp (fMth 6 gApp (fCons (fun e => shr false ((fVar 5) e)) (fNil)))) <|
      fAsg false 5 (fun e => shrS false ((fBin gIx (fVar 1) (fVar 5)) e))) 4096) <|
  fRet (fAndV (fBin gEqE (fVar 5) (fVar 4)) (fBin gEqE (fCal gLen (fCons (fVar 6) fNil)) (fCal gLen (fCons (fVar 0) fNil))))
theorem e_lead_round : blkS (sts 60 (C_lead_round) 60) (defBody s_lead_round) = g_lead_round := by kernel_rfl
def F_lead_round : Fn := ⟨false, runB false 7 g_lead_round⟩
/-! is_ring -/
abbrev s_is_ring : Stmt := topS 29
def N_is_ring : List Str := ["plan", "signing", "thing", "paths", "street"]
def p_is_ring : List Str := ["plan", "signing", "thing"]
theorem S_is_ring : FnScope N_is_ring p_is_ring (defScope s_is_ring) := ⟨rfl, rfl, rfl, by decide +kernel, rfl, by decide +kernel, by decide +kernel⟩
def t_is_ring : Str → Option (Nat × Bool × Fn) := fun x => if x = "paths_of" then some (2, false, F_paths_of) else if x = "lead_round" then some (1, false, F_lead_round) else if x = "is_rising" then some (2, false, F_is_rising) else none
def k_is_ring : Str → List Str → Option (List Nat) := fun x kn => none
def C_is_ring : Cc := { N := N_is_ring, io := false, sc := defScope s_is_ring, fn := fun _ => true, fs := t_is_ring, cs := csT, fr := frT, xs := fun _ => false, wn := 4096, ks := k_is_ring, ec := ecT, ds := dsT }
def g_is_ring : Ev → Fl :=
  fSq (fIfS (fOrB (fNotB (fTru (fFn F_is_rising (fCons (fun e => shr false ((fVar 2) e)) (fCons (fun e => shr false ((fCal gLen (fCons (fVar 1) fNil)) e)) (fNil)))))) (fTB (fBin gEqE (fVar 2) (fTup (fNil)))))
    (fRet (fC (.bool false)))
    (Fl.nx)) <|
  fSq (fAsg false 3 (fun e => shrS false ((fFn F_paths_of (fCons (fun e => shr false ((fVar 0) e)) (fCons (fun e => shr false ((fVar 1) e)) (fNil)))) e))) <|
  fRet (fFn F_lead_round (fCons (fun e => shr false ((fLc false [4] (fSeq false (fVar 2)) (tgN false 4) (fun e => .ok true e) (fBin gIx (fVar 3) (fVar 4))) e)) (fNil)))
theorem e_is_ring : blkS (sts 60 (C_is_ring) 60) (defBody s_is_ring) = g_is_ring := by kernel_rfl
def F_is_ring : Fn := ⟨false, runB false 5 g_is_ring⟩
/-! lead_out -/
abbrev s_lead_out : Stmt := topS 30
def N_lead_out : List Str := ["paths", "towns", "start", "end"]
def p_lead_out : List Str := ["paths", "towns"]
theorem S_lead_out : FnScope N_lead_out p_lead_out (defScope s_lead_out) := ⟨rfl, rfl, rfl, by decide +kernel, rfl, by decide +kernel, by decide +kernel⟩
def t_lead_out : Str → Option (Nat × Bool × Fn) := fun x => none
def k_lead_out : Str → List Str → Option (List Nat) := fun x kn => none
def C_lead_out : Cc := { N := N_lead_out, io := false, sc := defScope s_lead_out, fn := fun _ => true, fs := t_lead_out, cs := csT, fr := frT, xs := fun _ => false, wn := 4096, ks := k_lead_out, ec := ecT, ds := dsT }
def g_lead_out : Ev → Fl :=
  fRet (fCal gAll (fCons (fLc false [2, 3] (fSeq false (fVar 0)) (tgTup 2 (tgCons (tgN false 2) (tgCons (tgN false 3) (tgNil)))) (fun e => .ok true e) (fOrV (fBin (gIn false) (fVar 2) (fVar 1)) (fBin (gIn true) (fVar 3) (fVar 1)))) fNil))
theorem e_lead_out : blkS (sts 60 (C_lead_out) 60) (defBody s_lead_out) = g_lead_out := by kernel_rfl
def F_lead_out : Fn := ⟨false, runB false 4 g_lead_out⟩
/-! is_part -/
abbrev s_is_part : Stmt := topS 31
def N_is_part : List Str := ["thing", "many"]
def p_is_part : List Str := ["thing", "many"]
theorem S_is_part : FnScope N_is_part p_is_part (defScope s_is_part) := ⟨rfl, rfl, rfl, by decide +kernel, rfl, by decide +kernel, by decide +kernel⟩
def t_is_part : Str → Option (Nat × Bool × Fn) := fun x => if x = "is_rising" then some (2, false, F_is_rising) else none
def k_is_part : Str → List Str → Option (List Nat) := fun x kn => none
def C_is_part : Cc := { N := N_is_part, io := false, sc := defScope s_is_part, fn := fun _ => true, fs := t_is_part, cs := csT, fr := frT, xs := fun _ => false, wn := 4096, ks := k_is_part, ec := ecT, ds := dsT }
def g_is_part : Ev → Fl :=
  fRet (fAndV (fFn F_is_rising (fCons (fun e => shr false ((fVar 0) e)) (fCons (fun e => shr false ((fVar 1) e)) (fNil)))) (fChain gLt gLt (fC (.int 0)) (fCal gLen (fCons (fVar 0) fNil)) (fVar 1)))
theorem e_is_part : blkS (sts 60 (C_is_part) 60) (defBody s_is_part) = g_is_part := by kernel_rfl
def F_is_part : Fn := ⟨false, runB false 2 g_is_part⟩
/-! is_shore -/
abbrev s_is_shore : Stmt := topS 32
def N_is_shore : List Str := ["plan", "signing", "thing"]
def p_is_shore : List Str := ["plan", "signing", "thing"]
theorem S_is_shore : FnScope N_is_shore p_is_shore (defScope s_is_shore) := ⟨rfl, rfl, rfl, by decide +kernel, rfl, by decide +kernel, by decide +kernel⟩
def t_is_shore : Str → Option (Nat × Bool × Fn) := fun x => if x = "is_part" then some (2, false, F_is_part) else if x = "lead_out" then some (2, false, F_lead_out) else if x = "paths_of" then some (2, false, F_paths_of) else none
def k_is_shore : Str → List Str → Option (List Nat) := fun x kn => none
def C_is_shore : Cc := { N := N_is_shore, io := false, sc := defScope s_is_shore, fn := fun _ => true, fs := t_is_shore, cs := csT, fr := frT, xs := fun _ => false, wn := 4096, ks := k_is_shore, ec := ecT, ds := dsT }
def g_is_shore : Ev → Fl :=
  fRet (fAndV (fFn F_is_part (fCons (fun e => shr false ((fVar 2) e)) (fCons (fun e => shr false ((fBin gIx (fVar 0) (fC (.int 0))) e)) (fNil)))) (fFn F_lead_out (fCons (fun e => shr false ((fFn F_paths_of (fCons (fun e => shr false ((fVar 0) e)) (fCons (fun e => shr false ((fVar 1) e)) (fNil)))) e)) (fCons (fun e => shr false ((fVar 2) e)) (fNil)))))
theorem e_is_shore : blkS (sts 60 (C_is_shore) 60) (defBody s_is_shore) = g_is_shore := by kernel_rfl
def F_is_shore : Fn := ⟨false, runB false 3 g_is_shore⟩
/-! is_turn -/
abbrev s_is_turn : Stmt := topS 33
def N_is_turn : List Str := ["plan", "signing", "thing", "word", "lot"]
def p_is_turn : List Str := ["plan", "signing", "thing"]
theorem S_is_turn : FnScope N_is_turn p_is_turn (defScope s_is_turn) := ⟨rfl, rfl, rfl, by decide +kernel, rfl, by decide +kernel, by decide +kernel⟩
def t_is_turn : Str → Option (Nat × Bool × Fn) := fun x => if x = "is_pair" then some (1, false, F_is_pair) else if x = "is_ring" then some (3, false, F_is_ring) else if x = "is_shore" then some (3, false, F_is_shore) else none
def k_is_turn : Str → List Str → Option (List Nat) := fun x kn => none
def C_is_turn : Cc := { N := N_is_turn, io := false, sc := defScope s_is_turn, fn := fun _ => true, fs := t_is_turn, cs := csT, fr := frT, xs := fun _ => false, wn := 4096, ks := k_is_turn, ec := ecT, ds := dsT }
def g_is_turn : Ev → Fl :=
  fSq (fIfS (fNotB (fTru (fFn F_is_pair (fCons (fun e => shr false ((fVar 2) e)) (fNil)))))
    (fRet (fC (.bool false)))
    (Fl.nx)) <|
  fSq (fAsgT (tgTup 2 (tgCons (tgN false 3) (tgCons (tgN false 4) (tgNil)))) (fun e => shr false ((fVar 2) e))) <|
  fSq (fIfS (fTB (fBin gEqE (fVar 3) (fC (.str "ring"))))
    (fRet (fFn F_is_ring (fCons (fun e => shr false ((fVar 0) e)) (fCons (fun e => shr false ((fVar 1) e)) (fCons (fun e => shr false ((fVar 4) e)) (fNil))))))
    (Fl.nx)) <|
  fRet (fAndV (fBin gEqE (fVar 3) (fC (.str "shore"))) (fFn F_is_shore (fCons (fun e => shr false ((fVar 0) e)) (fCons (fun e => shr false ((fVar 1) e)) (fCons (fun e => shr false ((fVar 4) e)) (fNil))))))
theorem e_is_turn : blkS (sts 60 (C_is_turn) 60) (defBody s_is_turn) = g_is_turn := by kernel_rfl
def F_is_turn : Fn := ⟨false, runB false 5 g_is_turn⟩
/-! is_led_otherwise -/
abbrev s_is_led_otherwise : Stmt := topS 34
def N_is_led_otherwise : List Str := ["plan", "turn", "street", "word", "lot", "one", "other"]
def p_is_led_otherwise : List Str := ["plan", "turn", "street"]
theorem S_is_led_otherwise : FnScope N_is_led_otherwise p_is_led_otherwise (defScope s_is_led_otherwise) := ⟨rfl, rfl, rfl, by decide +kernel, rfl, by decide +kernel, by decide +kernel⟩
def t_is_led_otherwise : Str → Option (Nat × Bool × Fn) := fun x => none
def k_is_led_otherwise : Str → List Str → Option (List Nat) := fun x kn => none
def C_is_led_otherwise : Cc := { N := N_is_led_otherwise, io := false, sc := defScope s_is_led_otherwise, fn := fun _ => true, fs := t_is_led_otherwise, cs := csT, fr := frT, xs := fun _ => false, wn := 4096, ks := k_is_led_otherwise, ec := ecT, ds := dsT }
def g_is_led_otherwise : Ev → Fl :=
  fSq (fAsgT (tgTup 2 (tgCons (tgN false 3) (tgCons (tgN false 4) (tgNil)))) (fun e => shr false ((fVar 1) e))) <|
  fSq (fIfS (fTB (fBin gEqE (fVar 3) (fC (.str "ring"))))
    (fRet (fBin (gIn false) (fVar 2) (fVar 4)))
    (Fl.nx)) <|
  fSq (fAsgT (tgTup 2 (tgCons (tgN false 5) (tgCons (tgN false 6) (tgNil)))) (fun e => shr false ((fBin gIx (fBin gIx (fVar 0) (fC (.int 1))) (fVar 2)) e))) <|
  fRet (fBin (gEq true) (fBin (gIn false) (fVar 5) (fVar 4)) (fBin (gIn false) (fVar 6) (fVar 4)))
theorem e_is_led_otherwise : blkS (sts 60 (C_is_led_otherwise) 60) (defBody s_is_led_otherwise) = g_is_led_otherwise := by kernel_rfl
def F_is_led_otherwise : Fn := ⟨false, runB false 7 g_is_led_otherwise⟩
/-! signing_behind_turn -/
abbrev s_signing_behind_turn : Stmt := topS 35
def N_signing_behind_turn : List Str := ["plan", "signing", "turn", "street", "sign"]
def p_signing_behind_turn : List Str := ["plan", "signing", "turn"]
theorem S_signing_behind_turn : FnScope N_signing_behind_turn p_signing_behind_turn (defScope s_signing_behind_turn) := ⟨rfl, rfl, rfl, by decide +kernel, rfl, by decide +kernel, by decide +kernel⟩
def t_signing_behind_turn : Str → Option (Nat × Bool × Fn) := fun x => if x = "is_led_otherwise" then some (3, false, F_is_led_otherwise) else none
def k_signing_behind_turn : Str → List Str → Option (List Nat) := fun x kn => none
def C_signing_behind_turn : Cc := { N := N_signing_behind_turn, io := false, sc := defScope s_signing_behind_turn, fn := fun _ => true, fs := t_signing_behind_turn, cs := csT, fr := frT, xs := fun _ => false, wn := 4096, ks := k_signing_behind_turn, ec := ecT, ds := dsT }
def g_signing_behind_turn : Ev → Fl :=
  fRet (fCal gTuple (fCons (fLc false [3, 4] (fEnum (fCons (fun e => shr false ((fVar 1) e)) (fNil))) (tgTup 2 (tgCons (tgN false 3) (tgCons (tgN false 4) (tgNil)))) (fun e => .ok true e) (fIf (fTru (fFn F_is_led_otherwise (fCons (fun e => shr false ((fVar 0) e)) (fCons (fun e => shr false ((fVar 2) e)) (fCons (fun e => shr false ((fVar 3) e)) (fNil)))))) (fBin gSub (fC (.int 1)) (fVar 4)) (fVar 4))) fNil))
theorem e_signing_behind_turn : blkS (sts 60 (C_signing_behind_turn) 60) (defBody s_signing_behind_turn) = g_signing_behind_turn := by kernel_rfl
def F_signing_behind_turn : Fn := ⟨false, runB false 5 g_signing_behind_turn⟩
/-! signing_behind_row -/
abbrev s_signing_behind_row : Stmt := topS 36
def N_signing_behind_row : List Str := ["plan", "signing", "thing", "now", "turn"]
def p_signing_behind_row : List Str := ["plan", "signing", "thing"]
theorem S_signing_behind_row : FnScope N_signing_behind_row p_signing_behind_row (defScope s_signing_behind_row) := ⟨rfl, rfl, rfl, by decide +kernel, rfl, by decide +kernel, by decide +kernel⟩
def t_signing_behind_row : Str → Option (Nat × Bool × Fn) := fun x => if x = "signing_behind_turn" then some (3, false, F_signing_behind_turn) else if x = "is_turn" then some (3, false, F_is_turn) else none
def k_signing_behind_row : Str → List Str → Option (List Nat) := fun x kn => none
def C_signing_behind_row : Cc := { N := N_signing_behind_row, io := false, sc := defScope s_signing_behind_row, fn := fun _ => true, fs := t_signing_behind_row, cs := csT, fr := frT, xs := fun _ => false, wn := 4096, ks := k_signing_behind_row, ec := ecT, ds := dsT }
def g_signing_behind_row : Ev → Fl :=
  fSq (fIfS (fNotB (fTru (fIsi "tuple" (fVar 2))))
    (fRet (fC .none))
    (Fl.nx)) <|
  fSq (fAsg false 3 (fun e => shrS false ((fVar 1) e))) <|
  fSq (fFor (tgN false 4) (fSeq false (fVar 2))
    (fSq (fIfS (fNotB (fTru (fFn F_is_turn (fCons (fun e => shr false ((fVar 0) e)) (fCons (fun e => shr false ((fVar 3) e)) (fCons (fun e => shr false ((fVar 4) e)) (fNil)))))))
        (fRet (fC .none))
        (Fl.nx)) <|
      fAsg false 3 (fun e => shrS false ((fFn F_signing_behind_turn (fCons (fun e => shr false ((fVar 0) e)) (fCons (fun e => shr false ((fVar 3) e)) (fCons (fun e => shr false ((fVar 4) e)) (fNil))))) e)))) <|
  fRet (fVar 3)
theorem e_signing_behind_row : blkS (sts 60 (C_signing_behind_row) 60) (defBody s_signing_behind_row) = g_signing_behind_row := by kernel_rfl
def F_signing_behind_row : Fn := ⟨false, runB false 5 g_signing_behind_row⟩
/-! leads_there -/
abbrev s_leads_there : Stmt := topS 37
def N_leads_there : List Str := ["plan", "one", "other", "words", "thing", "turn"]
def p_leads_there : List Str := ["plan", "one", "other", "words", "thing"]
theorem S_leads_there : FnScope N_leads_there p_leads_there (defScope s_leads_there) := ⟨rfl, rfl, rfl, by decide +kernel, rfl, by decide +kernel, by decide +kernel⟩
def t_leads_there : Str → Option (Nat × Bool × Fn) := fun x => if x = "signing_behind_row" then some (3, false, F_signing_behind_row) else none
def k_leads_there : Str → List Str → Option (List Nat) := fun x kn => none
def C_leads_there : Cc := { N := N_leads_there, io := false, sc := defScope s_leads_there, fn := fun _ => true, fs := t_leads_there, cs := csT, fr := frT, xs := fun _ => false, wn := 4096, ks := k_leads_there, ec := ecT, ds := dsT }
def g_leads_there : Ev → Fl :=
  fSq (fIfS (fTB (fBin (gEq true) (fFn F_signing_behind_row (fCons (fun e => shr false ((fVar 0) e)) (fCons (fun e => shr false ((fVar 1) e)) (fCons (fun e => shr false ((fVar 4) e)) (fNil))))) (fVar 2)))
    (fRet (fC (.bool false)))
    (Fl.nx)) <|
  fRet (fCal gAll (fCons (fLc false [5] (fSeq false (fVar 4)) (tgN false 5) (fun e => .ok true e) (fBin (gIn false) (fBin gIx (fVar 5) (fC (.int 0))) (fVar 3))) fNil))
theorem e_leads_there : blkS (sts 60 (C_leads_there) 60) (defBody s_leads_there) = g_leads_there := by kernel_rfl
def F_leads_there : Fn := ⟨false, runB false 6 g_leads_there⟩
/-! steps_from -/
abbrev s_steps_from : Stmt := topS 39
def N_steps_from : List Str := ["plan", "town", "streets", "here", "steps", "street", "one", "other", "end"]
def p_steps_from : List Str := ["plan", "town", "streets"]
theorem S_steps_from : FnScope N_steps_from p_steps_from (defScope s_steps_from) := ⟨rfl, rfl, rfl, by decide +kernel, rfl, by decide +kernel, by decide +kernel⟩
def t_steps_from : Str → Option (Nat × Bool × Fn) := fun x => if x = "is_below" then some (2, false, F_is_below) else none
def k_steps_from : Str → List Str → Option (List Nat) := fun x kn => none
def C_steps_from : Cc := { N := N_steps_from, io := false, sc := defScope s_steps_from, fn := fun _ => true, fs := t_steps_from, cs := csT, fr := frT, xs := fun _ => false, wn := 4096, ks := k_steps_from, ec := ecT, ds := dsT }
def g_steps_from : Ev → Fl :=
  fSq (fAsg false 3 (fun e => shrS false ((fVar 1) e))) <|
  fSq (fAsg false 4 (fun e => shrS false ((fLst (fNil)) e))) <|
  fSq (fFor (tgN false 5) (fSeq false (fVar 2))
    (fSq (fIfS (fOrB (fNotB (fTru (fFn F_is_below (fCons (fun e => shr false ((fVar 5) e)) (fCons (fun e => shr false ((fCal gLen (fCons (fBin gIx (fVar 0) (fC (.int 1))) fNil)) e)) (fNil)))))) (fTB (fBin (gIn true) (fVar 3) (fBin gIx (fBin gIx (fVar 0) (fC (.int 1))) (fVar 5)))))
        (fRet (fC .none))
        (Fl.nx)) <|
      fSq (fAsgT (tgTup 2 (tgCons (tgN false 6) (tgCons (tgN false 7) (tgNil)))) (fun e => shr false ((fBin gIx (fBin gIx (fVar 0) (fC (.int 1))) (fVar 5)) e))) <|
      fSq (fAsg false 8 (fun e => shrS false ((fIf (fTB (fBin gEqE (fVar 3) (fVar 6))) (fVar 7) (fVar 6)) e))) <|
      fSq (fExp (fMth 4 gApp (fCons (fun e => shr false ((fTup (fCons (fun e => shr false ((fVar 5) e)) (fCons (fun e => shr false ((fVar 3) e)) (fCons (fun e => shr false ((fVar 8) e)) (fNil))))) e)) (fNil)))) <|
      fAsg false 3 (fun e => shrS false ((fVar 8) e)))) <|
  fRet (fVar 4)
theorem e_steps_from : blkS (sts 60 (C_steps_from) 60) (defBody s_steps_from) = g_steps_from := by kernel_rfl
def F_steps_from : Fn := ⟨false, runB false 9 g_steps_from⟩
/-! steps_of -/
abbrev s_steps_of : Stmt := topS 40
def N_steps_of : List Str := ["plan", "thing", "town", "streets"]
def p_steps_of : List Str := ["plan", "thing"]
theorem S_steps_of : FnScope N_steps_of p_steps_of (defScope s_steps_of) := ⟨rfl, rfl, rfl, by decide +kernel, rfl, by decide +kernel, by decide +kernel⟩
def t_steps_of : Str → Option (Nat × Bool × Fn) := fun x => if x = "steps_from" then some (3, false, F_steps_from) else if x = "is_pair" then some (1, false, F_is_pair) else if x = "is_below" then some (2, false, F_is_below) else none
def k_steps_of : Str → List Str → Option (List Nat) := fun x kn => none
def C_steps_of : Cc := { N := N_steps_of, io := false, sc := defScope s_steps_of, fn := fun _ => true, fs := t_steps_of, cs := csT, fr := frT, xs := fun _ => false, wn := 4096, ks := k_steps_of, ec := ecT, ds := dsT }
def g_steps_of : Ev → Fl :=
  fSq (fIfS (fNotB (fTru (fFn F_is_pair (fCons (fun e => shr false ((fVar 1) e)) (fNil)))))
    (fRet (fC .none))
    (Fl.nx)) <|
  fSq (fAsgT (tgTup 2 (tgCons (tgN false 2) (tgCons (tgN false 3) (tgNil)))) (fun e => shr false ((fVar 1) e))) <|
  fSq (fIfS (fOrB (fNotB (fTru (fFn F_is_below (fCons (fun e => shr false ((fVar 2) e)) (fCons (fun e => shr false ((fBin gIx (fVar 0) (fC (.int 0))) e)) (fNil)))))) (fOrB (fNotB (fTru (fIsi "tuple" (fVar 3)))) (fTB (fBin gEqE (fVar 3) (fTup (fNil))))))
    (fRet (fC .none))
    (Fl.nx)) <|
  fRet (fFn F_steps_from (fCons (fun e => shr false ((fVar 0) e)) (fCons (fun e => shr false ((fVar 2) e)) (fCons (fun e => shr false ((fVar 3) e)) (fNil)))))
theorem e_steps_of : blkS (sts 60 (C_steps_of) 60) (defBody s_steps_of) = g_steps_of := by kernel_rfl
def F_steps_of : Fn := ⟨false, runB false 4 g_steps_of⟩
/-! lead_of -/
abbrev s_lead_of : Stmt := topS 41
def N_lead_of : List Str := ["signing", "steps", "street", "start", "end"]
def p_lead_of : List Str := ["signing", "steps"]
theorem S_lead_of : FnScope N_lead_of p_lead_of (defScope s_lead_of) := ⟨rfl, rfl, rfl, by decide +kernel, rfl, by decide +kernel, by decide +kernel⟩
def t_lead_of : Str → Option (Nat × Bool × Fn) := fun x => none
def k_lead_of : Str → List Str → Option (List Nat) := fun x kn => none
def C_lead_of : Cc := { N := N_lead_of, io := false, sc := defScope s_lead_of, fn := fun _ => true, fs := t_lead_of, cs := csT, fr := frT, xs := fun _ => false, wn := 4096, ks := k_lead_of, ec := ecT, ds := dsT }
def g_lead_of : Ev → Fl :=
  fRet (fCal gSum (fCons (fLc false [2, 3, 4] (fSeq false (fVar 1)) (tgTup 3 (tgCons (tgN false 2) (tgCons (tgN false 3) (tgCons (tgN false 4) (tgNil))))) (fun e => .ok true e) (fIf (fTB (fBin gEqE (fBin gEqE (fBin gIx (fVar 0) (fVar 2)) (fC (.int 0))) (fBin gLt (fVar 3) (fVar 4)))) (fC (.int 1)) (fNeg (fC (.int 1))))) fNil))
theorem e_lead_of : blkS (sts 60 (C_lead_of) 60) (defBody s_lead_of) = g_lead_of := by kernel_rfl
def F_lead_of : Fn := ⟨false, runB false 5 g_lead_of⟩
/-! lead -/
abbrev s_lead : Stmt := topS 42
def N_lead : List Str := ["plan", "signing", "walk", "steps"]
def p_lead : List Str := ["plan", "signing", "walk"]
theorem S_lead : FnScope N_lead p_lead (defScope s_lead) := ⟨rfl, rfl, rfl, by decide +kernel, rfl, by decide +kernel, by decide +kernel⟩
def t_lead : Str → Option (Nat × Bool × Fn) := fun x => if x = "need_signing" then some (2, false, F_need_signing) else if x = "steps_of" then some (2, false, F_steps_of) else if x = "lead_of" then some (2, false, F_lead_of) else none
def k_lead : Str → List Str → Option (List Nat) := fun x kn => none
def C_lead : Cc := { N := N_lead, io := false, sc := defScope s_lead, fn := fun _ => true, fs := t_lead, cs := csT, fr := frT, xs := fun _ => false, wn := 4096, ks := k_lead, ec := ecT, ds := dsT }
def g_lead : Ev → Fl :=
  fSq (fExp (fFn F_need_signing (fCons (fun e => shr false ((fVar 0) e)) (fCons (fun e => shr false ((fVar 1) e)) (fNil))))) <|
  fSq (fAsg false 3 (fun e => shrS false ((fFn F_steps_of (fCons (fun e => shr false ((fVar 0) e)) (fCons (fun e => shr false ((fVar 2) e)) (fNil)))) e))) <|
  fSq (fIfS (fTB (fBin (gIs false) (fVar 3) (fC .none)))
    (sBad)
    (Fl.nx)) <|
  fRet (fFn F_lead_of (fCons (fun e => shr false ((fVar 1) e)) (fCons (fun e => shr false ((fVar 3) e)) (fNil))))
theorem e_lead : blkS (sts 60 (C_lead) 60) (defBody s_lead) = g_lead := by kernel_rfl
def F_lead : Fn := ⟨false, runB false 4 g_lead⟩
/-! ways_to_towns -/
abbrev s_ways_to_towns : Stmt := topS 43
def N_ways_to_towns : List Str := ["plan", "many", "streets", "ways", "place", "town"]
def p_ways_to_towns : List Str := ["plan"]
theorem S_ways_to_towns : FnScope N_ways_to_towns p_ways_to_towns (defScope s_ways_to_towns) := ⟨rfl, rfl, rfl, by decide +kernel, rfl, by decide +kernel, by decide +kernel⟩
def t_ways_to_towns : Str → Option (Nat × Bool × Fn) := fun x => if x = "ways_from" then some (2, false, F_ways_from) else if x = "both_ways" then some (1, false, F_both_ways) else none
def k_ways_to_towns : Str → List Str → Option (List Nat) := fun x kn => none
def C_ways_to_towns : Cc := { N := N_ways_to_towns, io := false, sc := defScope s_ways_to_towns, fn := fun _ => true, fs := t_ways_to_towns, cs := csT, fr := frT, xs := fun _ => false, wn := 4096, ks := k_ways_to_towns, ec := ecT, ds := dsT }
def g_ways_to_towns : Ev → Fl :=
  fSq (fAsgT (tgTup 2 (tgCons (tgN false 1) (tgCons (tgN false 2) (tgNil)))) (fun e => shr false ((fVar 0) e))) <|
  fSq (fAsg false 3 (fun e => shrS false ((fFn F_ways_from (fCons (fun e => shr false ((fC (.int 0)) e)) (fCons (fun e => shr false ((fFn F_both_ways (fCons (fun e => shr false ((fVar 2) e)) (fNil))) e)) (fNil)))) e))) <|
  fRet (fLc false [5] (fRng1 (fCons (fVar 1) fNil)) (tgN false 5) (fun e => .ok true e) (fLc false [4] (fSeq false (fBin gIx (fVar 3) (fVar 5))) (tgN false 4) (fun e => .ok true e) (fBin gMod (fVar 4) (fCal gLen (fCons (fVar 2) fNil)))))
theorem e_ways_to_towns : blkS (sts 60 (C_ways_to_towns) 60) (defBody s_ways_to_towns) = g_ways_to_towns := by kernel_rfl
def F_ways_to_towns : Fn := ⟨false, runB false 6 g_ways_to_towns⟩
/-! climb -/
abbrev s_climb : Stmt := topS 44
def N_climb : List Str := ["plan", "one", "other", "streets", "steps"]
def p_climb : List Str := ["plan", "one", "other", "streets"]
theorem S_climb : FnScope N_climb p_climb (defScope s_climb) := ⟨rfl, rfl, rfl, by decide +kernel, rfl, by decide +kernel, by decide +kernel⟩
def t_climb : Str → Option (Nat × Bool × Fn) := fun x => if x = "steps_from" then some (3, false, F_steps_from) else if x = "lead_of" then some (2, false, F_lead_of) else none
def k_climb : Str → List Str → Option (List Nat) := fun x kn => none
def C_climb : Cc := { N := N_climb, io := false, sc := defScope s_climb, fn := fun _ => true, fs := t_climb, cs := csT, fr := frT, xs := fun _ => false, wn := 4096, ks := k_climb, ec := ecT, ds := dsT }
def g_climb : Ev → Fl :=
  fSq (fAsg false 4 (fun e => shrS false ((fFn F_steps_from (fCons (fun e => shr false ((fVar 0) e)) (fCons (fun e => shr false ((fC (.int 0)) e)) (fCons (fun e => shr false ((fVar 3) e)) (fNil))))) e))) <|
  fRet (fBin gDiv (fBin gSub (fFn F_lead_of (fCons (fun e => shr false ((fVar 1) e)) (fCons (fun e => shr false ((fVar 4) e)) (fNil)))) (fFn F_lead_of (fCons (fun e => shr false ((fVar 2) e)) (fCons (fun e => shr false ((fVar 4) e)) (fNil))))) (fC (.int 2)))
theorem e_climb : blkS (sts 60 (C_climb) 60) (defBody s_climb) = g_climb := by kernel_rfl
def F_climb : Fn := ⟨false, runB false 5 g_climb⟩
/-! levels_between -/
abbrev s_levels_between : Stmt := topS 45
def N_levels_between : List Str := ["plan", "one", "other", "climbs", "way", "least", "height"]
def p_levels_between : List Str := ["plan", "one", "other"]
theorem S_levels_between : FnScope N_levels_between p_levels_between (defScope s_levels_between) := ⟨rfl, rfl, rfl, by decide +kernel, rfl, by decide +kernel, by decide +kernel⟩
def t_levels_between : Str → Option (Nat × Bool × Fn) := fun x => if x = "climb" then some (4, false, F_climb) else if x = "ways_to_towns" then some (1, false, F_ways_to_towns) else none
def k_levels_between : Str → List Str → Option (List Nat) := fun x kn => none
def C_levels_between : Cc := { N := N_levels_between, io := false, sc := defScope s_levels_between, fn := fun _ => true, fs := t_levels_between, cs := csT, fr := frT, xs := fun _ => false, wn := 4096, ks := k_levels_between, ec := ecT, ds := dsT }
def g_levels_between : Ev → Fl :=
  fSq (fAsg false 3 (fLc false [4] (fSeq false (fFn F_ways_to_towns (fCons (fun e => shr false ((fVar 0) e)) (fNil)))) (tgN false 4) (fun e => .ok true e) (fFn F_climb (fCons (fun e => shr false ((fVar 0) e)) (fCons (fun e => shr false ((fVar 1) e)) (fCons (fun e => shr false ((fVar 2) e)) (fCons (fun e => shr false ((fVar 4) e)) (fNil)))))))) <|
  fSq (fAsg false 5 (fun e => shrS false ((fCal gMin (fCons (fVar 3) fNil)) e))) <|
  fRet (fCal gTuple (fCons (fLc false [6] (fSeq false (fVar 3)) (tgN false 6) (fun e => .ok true e) (fBin gSub (fVar 6) (fVar 5))) fNil))
theorem e_levels_between : blkS (sts 60 (C_levels_between) 60) (defBody s_levels_between) = g_levels_between := by kernel_rfl
def F_levels_between : Fn := ⟨false, runB false 7 g_levels_between⟩
/-! unfit_streets -/
abbrev s_unfit_streets : Stmt := topS 46
def N_unfit_streets : List Str := ["plan", "one", "other", "levels", "street", "low", "high"]
def p_unfit_streets : List Str := ["plan", "one", "other", "levels"]
theorem S_unfit_streets : FnScope N_unfit_streets p_unfit_streets (defScope s_unfit_streets) := ⟨rfl, rfl, rfl, by decide +kernel, rfl, by decide +kernel, by decide +kernel⟩
def t_unfit_streets : Str → Option (Nat × Bool × Fn) := fun x => none
def k_unfit_streets : Str → List Str → Option (List Nat) := fun x kn => none
def C_unfit_streets : Cc := { N := N_unfit_streets, io := false, sc := defScope s_unfit_streets, fn := fun _ => true, fs := t_unfit_streets, cs := csT, fr := frT, xs := fun _ => false, wn := 4096, ks := k_unfit_streets, ec := ecT, ds := dsT }
def g_unfit_streets : Ev → Fl :=
  fRet (fLc false [4, 5, 6] (fEnum (fCons (fun e => shr false ((fBin gIx (fVar 0) (fC (.int 1))) e)) (fNil))) (tgTup 2 (tgCons (tgN false 4) (tgCons (tgTup 2 (tgCons (tgN false 5) (tgCons (tgN false 6) (tgNil)))) (tgNil)))) (fTB (fBin (gEq true) (fBin gSub (fBin gIx (fVar 3) (fVar 6)) (fBin gIx (fVar 3) (fVar 5))) (fBin gSub (fBin gIx (fVar 2) (fVar 4)) (fBin gIx (fVar 1) (fVar 4))))) (fVar 4))
theorem e_unfit_streets : blkS (sts 60 (C_unfit_streets) 60) (defBody s_unfit_streets) = g_unfit_streets := by kernel_rfl
def F_unfit_streets : Fn := ⟨false, runB false 7 g_unfit_streets⟩
/-! heights -/
abbrev s_heights : Stmt := topS 47
def N_heights : List Str := ["plan", "one", "other", "levels"]
def p_heights : List Str := ["plan", "one", "other"]
theorem S_heights : FnScope N_heights p_heights (defScope s_heights) := ⟨rfl, rfl, rfl, by decide +kernel, rfl, by decide +kernel, by decide +kernel⟩
def t_heights : Str → Option (Nat × Bool × Fn) := fun x => if x = "need_signings" then some (3, false, F_need_signings) else if x = "levels_between" then some (3, false, F_levels_between) else if x = "unfit_streets" then some (4, false, F_unfit_streets) else none
def k_heights : Str → List Str → Option (List Nat) := fun x kn => none
def C_heights : Cc := { N := N_heights, io := false, sc := defScope s_heights, fn := fun _ => true, fs := t_heights, cs := csT, fr := frT, xs := fun _ => false, wn := 4096, ks := k_heights, ec := ecT, ds := dsT }
def g_heights : Ev → Fl :=
  fSq (fExp (fFn F_need_signings (fCons (fun e => shr false ((fVar 0) e)) (fCons (fun e => shr false ((fVar 1) e)) (fCons (fun e => shr false ((fVar 2) e)) (fNil)))))) <|
  fSq (fAsg false 3 (fun e => shrS false ((fFn F_levels_between (fCons (fun e => shr false ((fVar 0) e)) (fCons (fun e => shr false ((fVar 1) e)) (fCons (fun e => shr false ((fVar 2) e)) (fNil))))) e))) <|
  fRet (fIf (fTru (fFn F_unfit_streets (fCons (fun e => shr false ((fVar 0) e)) (fCons (fun e => shr false ((fVar 1) e)) (fCons (fun e => shr false ((fVar 2) e)) (fCons (fun e => shr false ((fVar 3) e)) (fNil))))))) (fC .none) (fVar 3))
theorem e_heights : blkS (sts 60 (C_heights) 60) (defBody s_heights) = g_heights := by kernel_rfl
def F_heights : Fn := ⟨false, runB false 4 g_heights⟩
/-! towns_up_to -/
abbrev s_towns_up_to : Stmt := topS 48
def N_towns_up_to : List Str := ["levels", "level", "town", "height"]
def p_towns_up_to : List Str := ["levels", "level"]
theorem S_towns_up_to : FnScope N_towns_up_to p_towns_up_to (defScope s_towns_up_to) := ⟨rfl, rfl, rfl, by decide +kernel, rfl, by decide +kernel, by decide +kernel⟩
def t_towns_up_to : Str → Option (Nat × Bool × Fn) := fun x => none
def k_towns_up_to : Str → List Str → Option (List Nat) := fun x kn => none
def C_towns_up_to : Cc := { N := N_towns_up_to, io := false, sc := defScope s_towns_up_to, fn := fun _ => true, fs := t_towns_up_to, cs := csT, fr := frT, xs := fun _ => false, wn := 4096, ks := k_towns_up_to, ec := ecT, ds := dsT }
def g_towns_up_to : Ev → Fl :=
  fRet (fCal gTuple (fCons (fLc false [2, 3] (fEnum (fCons (fun e => shr false ((fVar 0) e)) (fNil))) (tgTup 2 (tgCons (tgN false 2) (tgCons (tgN false 3) (tgNil)))) (fTB (fBin gLe (fVar 3) (fVar 1))) (fVar 2)) fNil))
theorem e_towns_up_to : blkS (sts 60 (C_towns_up_to) 60) (defBody s_towns_up_to) = g_towns_up_to := by kernel_rfl
def F_towns_up_to : Fn := ⟨false, runB false 4 g_towns_up_to⟩
/-! shores_up -/
abbrev s_shores_up : Stmt := topS 49
def N_shores_up : List Str := ["levels", "level"]
def p_shores_up : List Str := ["levels"]
theorem S_shores_up : FnScope N_shores_up p_shores_up (defScope s_shores_up) := ⟨rfl, rfl, rfl, by decide +kernel, rfl, by decide +kernel, by decide +kernel⟩
def t_shores_up : Str → Option (Nat × Bool × Fn) := fun x => if x = "towns_up_to" then some (2, false, F_towns_up_to) else none
def k_shores_up : Str → List Str → Option (List Nat) := fun x kn => none
def C_shores_up : Cc := { N := N_shores_up, io := false, sc := defScope s_shores_up, fn := fun _ => true, fs := t_shores_up, cs := csT, fr := frT, xs := fun _ => false, wn := 4096, ks := k_shores_up, ec := ecT, ds := dsT }
def g_shores_up : Ev → Fl :=
  fRet (fCal gTuple (fCons (fLc false [1] (fRng1 (fCons (fCal gMax (fCons (fVar 0) fNil)) fNil)) (tgN false 1) (fun e => .ok true e) (fTup (fCons (fun e => shr false ((fC (.str "shore")) e)) (fCons (fun e => shr false ((fFn F_towns_up_to (fCons (fun e => shr false ((fVar 0) e)) (fCons (fun e => shr false ((fVar 1) e)) (fNil)))) e)) (fNil))))) fNil))
theorem e_shores_up : blkS (sts 60 (C_shores_up) 60) (defBody s_shores_up) = g_shores_up := by kernel_rfl
def F_shores_up : Fn := ⟨false, runB false 2 g_shores_up⟩
/-! streets_round -/
abbrev s_streets_round : Stmt := topS 50
def N_streets_round : List Str := ["plan", "street", "ways", "one", "other"]
def p_streets_round : List Str := ["plan", "street"]
theorem S_streets_round : FnScope N_streets_round p_streets_round (defScope s_streets_round) := ⟨rfl, rfl, rfl, by decide +kernel, rfl, by decide +kernel, by decide +kernel⟩
def t_streets_round : Str → Option (Nat × Bool × Fn) := fun x => if x = "ways_to_towns" then some (1, false, F_ways_to_towns) else none
def k_streets_round : Str → List Str → Option (List Nat) := fun x kn => none
def C_streets_round : Cc := { N := N_streets_round, io := false, sc := defScope s_streets_round, fn := fun _ => true, fs := t_streets_round, cs := csT, fr := frT, xs := fun _ => false, wn := 4096, ks := k_streets_round, ec := ecT, ds := dsT }
def g_streets_round : Ev → Fl :=
  fSq (fAsg false 2 (fun e => shrS false ((fFn F_ways_to_towns (fCons (fun e => shr false ((fVar 0) e)) (fNil))) e))) <|
  fSq (fAsgT (tgTup 2 (tgCons (tgN false 3) (tgCons (tgN false 4) (tgNil)))) (fun e => shr false ((fBin gIx (fBin gIx (fVar 0) (fC (.int 1))) (fVar 1)) e))) <|
  fRet (fCal gTuple (fCons (fBin gAdd (fBin gAdd (fBin gIx (fVar 2) (fVar 3)) (fLst (fCons (fun e => shr false ((fVar 1) e)) (fNil)))) (fRev (fBin gIx (fVar 2) (fVar 4)))) fNil))
theorem e_streets_round : blkS (sts 60 (C_streets_round) 60) (defBody s_streets_round) = g_streets_round := by kernel_rfl
def F_streets_round : Fn := ⟨false, runB false 5 g_streets_round⟩
/-! by_shores -/
abbrev s_by_shores : Stmt := topS 51
def N_by_shores : List Str := ["plan", "one", "other", "levels", "unfit"]
def p_by_shores : List Str := ["plan", "one", "other"]
theorem S_by_shores : FnScope N_by_shores p_by_shores (defScope s_by_shores) := ⟨rfl, rfl, rfl, by decide +kernel, rfl, by decide +kernel, by decide +kernel⟩
def t_by_shores : Str → Option (Nat × Bool × Fn) := fun x => if x = "need_signings" then some (3, false, F_need_signings) else if x = "levels_between" then some (3, false, F_levels_between) else if x = "unfit_streets" then some (4, false, F_unfit_streets) else if x = "shores_up" then some (1, false, F_shores_up) else if x = "streets_round" then some (2, false, F_streets_round) else none
def k_by_shores : Str → List Str → Option (List Nat) := fun x kn => none
def C_by_shores : Cc := { N := N_by_shores, io := false, sc := defScope s_by_shores, fn := fun _ => true, fs := t_by_shores, cs := csT, fr := frT, xs := fun _ => false, wn := 4096, ks := k_by_shores, ec := ecT, ds := dsT }
def g_by_shores : Ev → Fl :=
  fSq (fExp (fFn F_need_signings (fCons (fun e => shr false ((fVar 0) e)) (fCons (fun e => shr false ((fVar 1) e)) (fCons (fun e => shr false ((fVar 2) e)) (fNil)))))) <|
  fSq (fAsg false 3 (fun e => shrS false ((fFn F_levels_between (fCons (fun e => shr false ((fVar 0) e)) (fCons (fun e => shr false ((fVar 1) e)) (fCons (fun e => shr false ((fVar 2) e)) (fNil))))) e))) <|
  fSq (fAsg false 4 (fun e => shrS false ((fFn F_unfit_streets (fCons (fun e => shr false ((fVar 0) e)) (fCons (fun e => shr false ((fVar 1) e)) (fCons (fun e => shr false ((fVar 2) e)) (fCons (fun e => shr false ((fVar 3) e)) (fNil)))))) e))) <|
  fSq (fIfS (fTru (fVar 4))
    (fRet (fTup (fCons (fun e => shr false ((fC (.str "walk")) e)) (fCons (fun e => shr false ((fC (.int 0)) e)) (fCons (fun e => shr false ((fFn F_streets_round (fCons (fun e => shr false ((fVar 0) e)) (fCons (fun e => shr false ((fBin gIx (fVar 4) (fC (.int 0))) e)) (fNil)))) e)) (fNil))))))
    (Fl.nx)) <|
  fRet (fTup (fCons (fun e => shr false ((fC (.str "row")) e)) (fCons (fun e => shr false ((fFn F_shores_up (fCons (fun e => shr false ((fVar 3) e)) (fNil))) e)) (fNil))))
theorem e_by_shores : blkS (sts 60 (C_by_shores) 60) (defBody s_by_shores) = g_by_shores := by kernel_rfl
def F_by_shores : Fn := ⟨false, runB false 5 g_by_shores⟩
/-! is_unlike_round -/
abbrev s_is_unlike_round : Stmt := topS 52
def N_is_unlike_round : List Str := ["plan", "one", "other", "thing", "steps", "closed"]
def p_is_unlike_round : List Str := ["plan", "one", "other", "thing"]
theorem S_is_unlike_round : FnScope N_is_unlike_round p_is_unlike_round (defScope s_is_unlike_round) := ⟨rfl, rfl, rfl, by decide +kernel, rfl, by decide +kernel, by decide +kernel⟩
def t_is_unlike_round : Str → Option (Nat × Bool × Fn) := fun x => if x = "steps_of" then some (2, false, F_steps_of) else if x = "lead_of" then some (2, false, F_lead_of) else none
def k_is_unlike_round : Str → List Str → Option (List Nat) := fun x kn => none
def C_is_unlike_round : Cc := { N := N_is_unlike_round, io := false, sc := defScope s_is_unlike_round, fn := fun _ => true, fs := t_is_unlike_round, cs := csT, fr := frT, xs := fun _ => false, wn := 4096, ks := k_is_unlike_round, ec := ecT, ds := dsT }
def g_is_unlike_round : Ev → Fl :=
  fSq (fAsg false 4 (fun e => shrS false ((fFn F_steps_of (fCons (fun e => shr false ((fVar 0) e)) (fCons (fun e => shr false ((fVar 3) e)) (fNil)))) e))) <|
  fSq (fIfS (fTB (fBin (gIs false) (fVar 4) (fC .none)))
    (fRet (fC (.bool false)))
    (Fl.nx)) <|
  fSq (fAsg false 5 (fun e => shrS false ((fBin gEqE (fBin gIx (fBin gIx (fVar 4) (fC (.int 0))) (fC (.int 1))) (fBin gIx (fBin gIx (fVar 4) (fNeg (fC (.int 1)))) (fC (.int 2)))) e))) <|
  fRet (fAndV (fVar 5) (fBin (gEq true) (fFn F_lead_of (fCons (fun e => shr false ((fVar 1) e)) (fCons (fun e => shr false ((fVar 4) e)) (fNil)))) (fFn F_lead_of (fCons (fun e => shr false ((fVar 2) e)) (fCons (fun e => shr false ((fVar 4) e)) (fNil))))))
theorem e_is_unlike_round : blkS (sts 60 (C_is_unlike_round) 60) (defBody s_is_unlike_round) = g_is_unlike_round := by kernel_rfl
def F_is_unlike_round : Fn := ⟨false, runB false 6 g_is_unlike_round⟩
/-! shows_by_shores -/
abbrev s_shows_by_shores : Stmt := topS 53
def N_shows_by_shores : List Str := ["plan", "one", "other", "thing"]
def p_shows_by_shores : List Str := ["plan", "one", "other", "thing"]
theorem S_shows_by_shores : FnScope N_shows_by_shores p_shows_by_shores (defScope s_shows_by_shores) := ⟨rfl, rfl, rfl, by decide +kernel, rfl, by decide +kernel, by decide +kernel⟩
def t_shows_by_shores : Str → Option (Nat × Bool × Fn) := fun x => if x = "need_signings" then some (3, false, F_need_signings) else if x = "is_pair" then some (1, false, F_is_pair) else if x = "is_triple" then some (1, false, F_is_triple) else if x = "is_unlike_round" then some (4, false, F_is_unlike_round) else if x = "leads_there" then some (5, false, F_leads_there) else none
def k_shows_by_shores : Str → List Str → Option (List Nat) := fun x kn => none
def C_shows_by_shores : Cc := { N := N_shows_by_shores, io := false, sc := defScope s_shows_by_shores, fn := fun _ => true, fs := t_shows_by_shores, cs := csT, fr := frT, xs := fun _ => false, wn := 4096, ks := k_shows_by_shores, ec := ecT, ds := dsT }
def g_shows_by_shores : Ev → Fl :=
  fSq (fExp (fFn F_need_signings (fCons (fun e => shr false ((fVar 0) e)) (fCons (fun e => shr false ((fVar 1) e)) (fCons (fun e => shr false ((fVar 2) e)) (fNil)))))) <|
  fSq (fIfS (fTru (fFn F_is_pair (fCons (fun e => shr false ((fVar 3) e)) (fNil))))
    (fRet (fAndV (fBin gEqE (fBin gIx (fVar 3) (fC (.int 0))) (fC (.str "row"))) (fFn F_leads_there (fCons (fun e => shr false ((fVar 0) e)) (fCons (fun e => shr false ((fVar 1) e)) (fCons (fun e => shr false ((fVar 2) e)) (fCons (fun e => shr false ((fTup (fCons (fun e => shr false ((fC (.str "shore")) e)) (fNil))) e)) (fCons (fun e => shr false ((fBin gIx (fVar 3) (fC (.int 1))) e)) (fNil)))))))))
    (Fl.nx)) <|
  fRet (fAndV (fFn F_is_triple (fCons (fun e => shr false ((fVar 3) e)) (fNil))) (fAndV (fBin gEqE (fBin gIx (fVar 3) (fC (.int 0))) (fC (.str "walk"))) (fFn F_is_unlike_round (fCons (fun e => shr false ((fVar 0) e)) (fCons (fun e => shr false ((fVar 1) e)) (fCons (fun e => shr false ((fVar 2) e)) (fCons (fun e => shr false ((fSl (fVar 3) (fPart (fC (.int 1))) fNoP) e)) (fNil))))))))
theorem e_shows_by_shores : blkS (sts 60 (C_shows_by_shores) 60) (defBody s_shows_by_shores) = g_shows_by_shores := by kernel_rfl
def F_shows_by_shores : Fn := ⟨false, runB false 4 g_shows_by_shores⟩
/-! ring_through -/
abbrev s_ring_through : Stmt := topS 55
def N_ring_through : List Str := ["paths", "street", "among", "start", "end", "ways", "step", "place"]
def p_ring_through : List Str := ["paths", "street", "among"]
theorem S_ring_through : FnScope N_ring_through p_ring_through (defScope s_ring_through) := ⟨rfl, rfl, rfl, by decide +kernel, rfl, by decide +kernel, by decide +kernel⟩
def t_ring_through : Str → Option (Nat × Bool × Fn) := fun x => if x = "ways_from" then some (2, false, F_ways_from) else none
def k_ring_through : Str → List Str → Option (List Nat) := fun x kn => none
def C_ring_through : Cc := { N := N_ring_through, io := false, sc := defScope s_ring_through, fn := fun _ => true, fs := t_ring_through, cs := csT, fr := frT, xs := fun _ => false, wn := 4096, ks := k_ring_through, ec := ecT, ds := dsT }
def g_ring_through : Ev → Fl :=
  fSq (fAsgT (tgTup 2 (tgCons (tgN false 3) (tgCons (tgN false 4) (tgNil)))) (fun e => shr false ((fBin gIx (fVar 0) (fVar 1)) e))) <|
  fSq (fAsg false 5 (fun e => shrS false ((fFn F_ways_from (fCons (fun e => shr false ((fVar 4) e)) (fCons (fun e => shr false ((fLc false [6] (fSeq false (fVar 2)) (tgN false 6) (fun e => .ok true e) (fBin gIx (fVar 0) (fVar 6))) e)) (fNil)))) e))) <|
  fSq (fIfS (fTB (fBin (gIn true) (fVar 3) (fVar 5)))
    (fRet (fC .none))
    (Fl.nx)) <|
  fRet (fCal gTuple (fCons (fCal gSorted (fCons (fBin gAdd (fLc false [7] (fSeq false (fBin gIx (fVar 5) (fVar 3))) (tgN false 7) (fun e => .ok true e) (fBin gIx (fVar 2) (fVar 7))) (fLst (fCons (fun e => shr false ((fVar 1) e)) (fNil)))) fNil)) fNil))
theorem e_ring_through : blkS (sts 60 (C_ring_through) 60) (defBody s_ring_through) = g_ring_through := by kernel_rfl
def F_ring_through : Fn := ⟨false, runB false 8 g_ring_through⟩
/-! unlike_places -/
abbrev s_unlike_places : Stmt := topS 57
def N_unlike_places : List Str := ["first", "second", "place", "number", "against"]
def p_unlike_places : List Str := ["first", "second"]
theorem S_unlike_places : FnScope N_unlike_places p_unlike_places (defScope s_unlike_places) := ⟨rfl, rfl, rfl, by decide +kernel, rfl, by decide +kernel, by decide +kernel⟩
def t_unlike_places : Str → Option (Nat × Bool × Fn) := fun x => none
def k_unlike_places : Str → List Str → Option (List Nat) := fun x kn => none
def C_unlike_places : Cc := { N := N_unlike_places, io := false, sc := defScope s_unlike_places, fn := fun _ => true, fs := t_unlike_places, cs := csT, fr := frT, xs := fun _ => false, wn := 4096, ks := k_unlike_places, ec := ecT, ds := dsT }
def g_unlike_places : Ev → Fl :=
  fRet (fLc false [2, 3, 4] (fEnumZ (fCons (fVar 0) (fCons (fVar 1) fNil))) (tgTup 2 (tgCons (tgN false 2) (tgCons (tgTup 2 (tgCons (tgN false 3) (tgCons (tgN false 4) (tgNil)))) (tgNil)))) (fTB (fBin (gEq true) (fVar 3) (fVar 4))) (fVar 2))
theorem e_unlike_places : blkS (sts 60 (C_unlike_places) 60) (defBody s_unlike_places) = g_unlike_places := by kernel_rfl
def F_unlike_places : Fn := ⟨false, runB false 5 g_unlike_places⟩
/-! rings_between -/
abbrev s_rings_between : Stmt := topS 58
def N_rings_between : List Str := ["plan", "one", "other", "paths", "left", "row", "ring", "street"]
def p_rings_between : List Str := ["plan", "one", "other"]
theorem S_rings_between : FnScope N_rings_between p_rings_between (defScope s_rings_between) := ⟨rfl, rfl, rfl, by decide +kernel, rfl, by decide +kernel, by decide +kernel⟩
def t_rings_between : Str → Option (Nat × Bool × Fn) := fun x => if x = "paths_of" then some (2, false, F_paths_of) else if x = "unlike_places" then some (2, false, F_unlike_places) else if x = "ring_through" then some (3, false, F_ring_through) else none
def k_rings_between : Str → List Str → Option (List Nat) := fun x kn => none
def C_rings_between : Cc := { N := N_rings_between, io := false, sc := defScope s_rings_between, fn := fun _ => true, fs := t_rings_between, cs := csT, fr := frT, xs := fun _ => false, wn := 4096, ks := k_rings_between, ec := ecT, ds := dsT }
def g_rings_between : Ev → Fl :=
  fSq (fAsg false 3 (fun e => shrS false ((fFn F_paths_of (fCons (fun e => shr false ((fVar 0) e)) (fCons (fun e => shr false ((fVar 1) e)) (fNil)))) e))) <|
  fSq (fAsg false 4 (fun e => shrS false ((fFn F_unlike_places (fCons (fun e => shr false ((fVar 1) e)) (fCons (fun e => shr false ((fVar 2) e)) (fNil)))) e))) <|
  fSq (fAsg false 5 (fun e => shrS false ((fLst (fNil)) e))) <|
  fSq (whileL (fTru (fVar 4))
    (fSq (fAsg false 6 (fun e => shrS false ((fFn F_ring_through (fCons (fun e => shr false ((fVar 3) e)) (fCons (fun e => shr false ((fBin gIx (fVar 4) (fC (.int 0))) e)) (fCons (fun e => shr false ((fVar 4) e)) (fNil))))) e))) <|
      fSq (fExp (fMth 5 gApp (fCons (fun e => shr false ((fTup (fCons (fun e => shr false ((fC (.str "ring")) e)) (fCons (fun e => shr false ((fVar 6) e)) (fNil)))) e)) (fNil)))) <|
      fAsg false 4 (fLc false [7] (fSeq false (fVar 4)) (tgN false 7) (fTB (fBin (gIn true) (fVar 7) (fVar 6))) (fVar 7))) 4096) <|
  fRet (fCal gTuple (fCons (fVar 5) fNil))
theorem e_rings_between : blkS (sts 60 (C_rings_between) 60) (defBody s_rings_between) = g_rings_between := by kernel_rfl
def F_rings_between : Fn := ⟨false, runB false 8 g_rings_between⟩
/-! unlike_towns -/
abbrev s_unlike_towns : Stmt := topS 59
def N_unlike_towns : List Str := ["plan", "one", "other"]
def p_unlike_towns : List Str := ["plan", "one", "other"]
theorem S_unlike_towns : FnScope N_unlike_towns p_unlike_towns (defScope s_unlike_towns) := ⟨rfl, rfl, rfl, by decide +kernel, rfl, by decide +kernel, by decide +kernel⟩
def t_unlike_towns : Str → Option (Nat × Bool × Fn) := fun x => if x = "unlike_places" then some (2, false, F_unlike_places) else if x = "outs" then some (2, false, F_outs) else none
def k_unlike_towns : Str → List Str → Option (List Nat) := fun x kn => none
def C_unlike_towns : Cc := { N := N_unlike_towns, io := false, sc := defScope s_unlike_towns, fn := fun _ => true, fs := t_unlike_towns, cs := csT, fr := frT, xs := fun _ => false, wn := 4096, ks := k_unlike_towns, ec := ecT, ds := dsT }
def g_unlike_towns : Ev → Fl :=
  fRet (fFn F_unlike_places (fCons (fun e => shr false ((fFn F_outs (fCons (fun e => shr false ((fVar 0) e)) (fCons (fun e => shr false ((fVar 1) e)) (fNil)))) e)) (fCons (fun e => shr false ((fFn F_outs (fCons (fun e => shr false ((fVar 0) e)) (fCons (fun e => shr false ((fVar 2) e)) (fNil)))) e)) (fNil))))
theorem e_unlike_towns : blkS (sts 60 (C_unlike_towns) 60) (defBody s_unlike_towns) = g_unlike_towns := by kernel_rfl
def F_unlike_towns : Fn := ⟨false, runB false 3 g_unlike_towns⟩
/-! by_rings -/
abbrev s_by_rings : Stmt := topS 60
def N_by_rings : List Str := ["plan", "one", "other", "towns"]
def p_by_rings : List Str := ["plan", "one", "other"]
theorem S_by_rings : FnScope N_by_rings p_by_rings (defScope s_by_rings) := ⟨rfl, rfl, rfl, by decide +kernel, rfl, by decide +kernel, by decide +kernel⟩
def t_by_rings : Str → Option (Nat × Bool × Fn) := fun x => if x = "need_signings" then some (3, false, F_need_signings) else if x = "unlike_towns" then some (3, false, F_unlike_towns) else if x = "rings_between" then some (3, false, F_rings_between) else none
def k_by_rings : Str → List Str → Option (List Nat) := fun x kn => none
def C_by_rings : Cc := { N := N_by_rings, io := false, sc := defScope s_by_rings, fn := fun _ => true, fs := t_by_rings, cs := csT, fr := frT, xs := fun _ => false, wn := 4096, ks := k_by_rings, ec := ecT, ds := dsT }
def g_by_rings : Ev → Fl :=
  fSq (fExp (fFn F_need_signings (fCons (fun e => shr false ((fVar 0) e)) (fCons (fun e => shr false ((fVar 1) e)) (fCons (fun e => shr false ((fVar 2) e)) (fNil)))))) <|
  fSq (fAsg false 3 (fun e => shrS false ((fFn F_unlike_towns (fCons (fun e => shr false ((fVar 0) e)) (fCons (fun e => shr false ((fVar 1) e)) (fCons (fun e => shr false ((fVar 2) e)) (fNil))))) e))) <|
  fSq (fIfS (fTru (fVar 3))
    (fRet (fTup (fCons (fun e => shr false ((fC (.str "town")) e)) (fCons (fun e => shr false ((fBin gIx (fVar 3) (fC (.int 0))) e)) (fNil)))))
    (Fl.nx)) <|
  fRet (fTup (fCons (fun e => shr false ((fC (.str "row")) e)) (fCons (fun e => shr false ((fFn F_rings_between (fCons (fun e => shr false ((fVar 0) e)) (fCons (fun e => shr false ((fVar 1) e)) (fCons (fun e => shr false ((fVar 2) e)) (fNil))))) e)) (fNil))))
theorem e_by_rings : blkS (sts 60 (C_by_rings) 60) (defBody s_by_rings) = g_by_rings := by kernel_rfl
def F_by_rings : Fn := ⟨false, runB false 4 g_by_rings⟩
/-! shows_by_rings -/
abbrev s_shows_by_rings : Stmt := topS 61
def N_shows_by_rings : List Str := ["plan", "one", "other", "thing", "word", "part"]
def p_shows_by_rings : List Str := ["plan", "one", "other", "thing"]
theorem S_shows_by_rings : FnScope N_shows_by_rings p_shows_by_rings (defScope s_shows_by_rings) := ⟨rfl, rfl, rfl, by decide +kernel, rfl, by decide +kernel, by decide +kernel⟩
def t_shows_by_rings : Str → Option (Nat × Bool × Fn) := fun x => if x = "need_signings" then some (3, false, F_need_signings) else if x = "is_pair" then some (1, false, F_is_pair) else if x = "leads_there" then some (5, false, F_leads_there) else if x = "is_below" then some (2, false, F_is_below) else if x = "unlike_towns" then some (3, false, F_unlike_towns) else none
def k_shows_by_rings : Str → List Str → Option (List Nat) := fun x kn => none
def C_shows_by_rings : Cc := { N := N_shows_by_rings, io := false, sc := defScope s_shows_by_rings, fn := fun _ => true, fs := t_shows_by_rings, cs := csT, fr := frT, xs := fun _ => false, wn := 4096, ks := k_shows_by_rings, ec := ecT, ds := dsT }
def g_shows_by_rings : Ev → Fl :=
  fSq (fExp (fFn F_need_signings (fCons (fun e => shr false ((fVar 0) e)) (fCons (fun e => shr false ((fVar 1) e)) (fCons (fun e => shr false ((fVar 2) e)) (fNil)))))) <|
  fSq (fIfS (fNotB (fTru (fFn F_is_pair (fCons (fun e => shr false ((fVar 3) e)) (fNil)))))
    (fRet (fC (.bool false)))
    (Fl.nx)) <|
  fSq (fAsgT (tgTup 2 (tgCons (tgN false 4) (tgCons (tgN false 5) (tgNil)))) (fun e => shr false ((fVar 3) e))) <|
  fSq (fIfS (fTB (fBin gEqE (fVar 4) (fC (.str "town"))))
    (fRet (fAndV (fFn F_is_below (fCons (fun e => shr false ((fVar 5) e)) (fCons (fun e => shr false ((fBin gIx (fVar 0) (fC (.int 0))) e)) (fNil)))) (fBin (gIn false) (fVar 5) (fFn F_unlike_towns (fCons (fun e => shr false ((fVar 0) e)) (fCons (fun e => shr false ((fVar 1) e)) (fCons (fun e => shr false ((fVar 2) e)) (fNil))))))))
    (Fl.nx)) <|
  fRet (fAndV (fBin gEqE (fVar 4) (fC (.str "row"))) (fFn F_leads_there (fCons (fun e => shr false ((fVar 0) e)) (fCons (fun e => shr false ((fVar 1) e)) (fCons (fun e => shr false ((fVar 2) e)) (fCons (fun e => shr false ((fTup (fCons (fun e => shr false ((fC (.str "ring")) e)) (fNil))) e)) (fCons (fun e => shr false ((fVar 5) e)) (fNil))))))))
theorem e_shows_by_rings : blkS (sts 60 (C_shows_by_rings) 60) (defBody s_shows_by_rings) = g_shows_by_rings := by kernel_rfl
def F_shows_by_rings : Fn := ⟨false, runB false 6 g_shows_by_rings⟩
/-! _law_cell_at -/
abbrev s__law_cell_at : Stmt := topS 63
def N__law_cell_at : List Str := ["_law_script", "_law_k"]
def p__law_cell_at : List Str := ["_law_script", "_law_k"]
theorem S__law_cell_at : FnScope N__law_cell_at p__law_cell_at (defScope s__law_cell_at) := ⟨rfl, rfl, rfl, by decide +kernel, rfl, by decide +kernel, by decide +kernel⟩
def t__law_cell_at : Str → Option (Nat × Bool × Fn) := fun x => none
def k__law_cell_at : Str → List Str → Option (List Nat) := fun x kn => none
def C__law_cell_at : Cc := { N := N__law_cell_at, io := false, sc := defScope s__law_cell_at, fn := fun _ => true, fs := t__law_cell_at, cs := csT, fr := frT, xs := fun _ => false, wn := 4096, ks := k__law_cell_at, ec := ecT, ds := dsT }
def g__law_cell_at : Ev → Fl :=
  fSq (fIfS (fTB (fBin gLt (fVar 1) (fCal gLen (fCons (fVar 0) fNil))))
    (fRet (fBin gIx (fVar 0) (fVar 1)))
    (Fl.nx)) <|
  fRet (fC (.int 0))
theorem e__law_cell_at : blkS (sts 60 (C__law_cell_at) 60) (defBody s__law_cell_at) = g__law_cell_at := by kernel_rfl
def F__law_cell_at : Fn := ⟨false, runB false 2 g__law_cell_at⟩
/-! _law_pen -/
abbrev s__law_pen : Stmt := topS 64
def N__law_pen : List Str := ["_law_cell"]
def p__law_pen : List Str := ["_law_cell"]
theorem S__law_pen : FnScope N__law_pen p__law_pen (defScope s__law_pen) := ⟨rfl, rfl, rfl, by decide +kernel, rfl, by decide +kernel, by decide +kernel⟩
def t__law_pen : Str → Option (Nat × Bool × Fn) := fun x => none
def k__law_pen : Str → List Str → Option (List Nat) := fun x kn => none
def C__law_pen : Cc := { N := N__law_pen, io := false, sc := defScope s__law_pen, fn := fun _ => true, fs := t__law_pen, cs := csT, fr := frT, xs := fun _ => false, wn := 4096, ks := k__law_pen, ec := ecT, ds := dsT }
def g__law_pen : Ev → Fl :=
  fRet (fLst (fCons (fun e => shr false ((fCal gMax (fCons (fC (.int 0)) (fCons (fBin gSub (fVar 0) (fBin gPow (fC (.int 10)) (fC (.int 18)))) fNil))) e)) (fCons (fun e => shr false ((fBin gMod (fVar 0) (fC (.int 1000000007))) e)) (fCons (fun e => shr false ((fC (.int 0)) e)) (fNil)))))
theorem e__law_pen : blkS (sts 60 (C__law_pen) 60) (defBody s__law_pen) = g__law_pen := by kernel_rfl
def F__law_pen : Fn := ⟨false, runB false 1 g__law_pen⟩
/-! _law_draw -/
abbrev s__law_draw : Stmt := topS 65
def N__law_draw : List Str := ["_law_pen_here", "_law_many", "_law_digit", "_law_stir"]
def p__law_draw : List Str := ["_law_pen_here", "_law_many"]
theorem S__law_draw : FnScope N__law_draw p__law_draw (defScope s__law_draw) := ⟨rfl, rfl, rfl, by decide +kernel, rfl, by decide +kernel, by decide +kernel⟩
def t__law_draw : Str → Option (Nat × Bool × Fn) := fun x => none
def k__law_draw : Str → List Str → Option (List Nat) := fun x kn => none
def C__law_draw : Cc := { N := N__law_draw, io := true, sc := defScope s__law_draw, fn := fun _ => true, fs := t__law_draw, cs := csT, fr := frT, xs := fun _ => false, wn := 4096, ks := k__law_draw, ec := ecT, ds := dsT }
def g__law_draw : Ev → Fl :=
  fSq (fIfS (fTB (fBin gGt (fBin gIx (fVar 0) (fC (.int 0))) (fC (.int 0))))
    (fSq (fAsg true 2 (fun e => shrS true ((fBin gMod (fBin gIx (fVar 0) (fC (.int 0))) (fVar 1)) e))) <|
      fSq (fPut true 0 (fBin gDiv (fBin gIx (fVar 0) (fC (.int 0))) (fVar 1)) (fC (.int 0))) <|
      fRet (fVar 2))
    (Fl.nx)) <|
  fSq (fPut true 0 (fBin gAdd (fBin gIx (fVar 0) (fC (.int 2))) (fC (.int 1))) (fC (.int 2))) <|
  fSq (fAsg true 3 (fun e => shrS true ((fBin gMod (fBin gMul (fBin gAdd (fBin gIx (fVar 0) (fC (.int 1))) (fBin gMul (fC (.int 17)) (fBin gIx (fVar 0) (fC (.int 2))))) (fBin gAdd (fC (.int 69621)) (fBin gMul (fC (.int 2)) (fBin gIx (fVar 0) (fC (.int 2)))))) (fC (.int 2147483647))) e))) <|
  fSq (fAsg true 3 (fun e => shrS true ((fBin gMod (fBin gAdd (fBin gAdd (fBin gMul (fVar 3) (fVar 3)) (fBin gMul (fC (.int 40503)) (fBin gIx (fVar 0) (fC (.int 2))))) (fC (.int 5))) (fC (.int 2147483629))) e))) <|
  fRet (fBin gMod (fBin gDiv (fBin gMod (fBin gMul (fVar 3) (fC (.int 48271))) (fC (.int 2147483647))) (fC (.int 32))) (fVar 1))
theorem e__law_draw : blkS (sts 60 (C__law_draw) 60) (defBody s__law_draw) = g__law_draw := by kernel_rfl
def F__law_draw : Fn := ⟨true, runB true 4 g__law_draw⟩
/-! _law_rings_right -/
abbrev s__law_rings_right : Stmt := topS 66
def N__law_rings_right : List Str := ["_law_three", "_law_told"]
def p__law_rings_right : List Str := ["_law_three"]
theorem S__law_rings_right : FnScope N__law_rings_right p__law_rings_right (defScope s__law_rings_right) := ⟨rfl, rfl, rfl, by decide +kernel, rfl, by decide +kernel, by decide +kernel⟩
def t__law_rings_right : Str → Option (Nat × Bool × Fn) := fun x => if x = "shows_by_rings" then some (4, false, F_shows_by_rings) else if x = "by_rings" then some (3, false, F_by_rings) else none
def k__law_rings_right : Str → List Str → Option (List Nat) := fun x kn => if x = "by_rings" ∧ kn = (["other", "one", "plan"] : List Str) then some [2, 1, 0] else if x = "shows_by_rings" ∧ kn = (["thing", "other", "one", "plan"] : List Str) then some [3, 2, 1, 0] else none
def C__law_rings_right : Cc := { N := N__law_rings_right, io := false, sc := defScope s__law_rings_right, fn := fun _ => true, fs := t__law_rings_right, cs := csT, fr := frT, xs := fun _ => false, wn := 4096, ks := k__law_rings_right, ec := ecT, ds := dsT }
def g__law_rings_right : Ev → Fl :=
  fSq (fAsg false 1 (fun e => shrS false ((fTup (fCons (fun e => shr false ((fC (.str "row")) e)) (fCons (fun e => shr false ((fTup (fCons (fun e => shr false ((fTup (fCons (fun e => shr false ((fC (.str "ring")) e)) (fCons (fun e => shr false ((fTup (fCons (fun e => shr false ((fC (.int 0)) e)) (fCons (fun e => shr false ((fC (.int 1)) e)) (fCons (fun e => shr false ((fC (.int 2)) e)) (fNil))))) e)) (fNil)))) e)) (fNil))) e)) (fNil)))) e))) <|
  fSq (fIfS (fOrB (fTB (fBin (gEq true) (fFnK F_by_rings [2, 1, 0] (fCons (fun e => shr false ((fTup (fCons (fun e => shr false ((fC (.int 1)) e)) (fCons (fun e => shr false ((fC (.int 0)) e)) (fCons (fun e => shr false ((fC (.int 1)) e)) (fNil))))) e)) (fCons (fun e => shr false ((fTup (fCons (fun e => shr false ((fC (.int 0)) e)) (fCons (fun e => shr false ((fC (.int 1)) e)) (fCons (fun e => shr false ((fC (.int 0)) e)) (fNil))))) e)) (fCons (fun e => shr false ((fVar 0) e)) (fNil))))) (fVar 1))) (fTB (fBin (gEq true) (fFn F_by_rings (fCons (fun e => shr false ((fVar 0) e)) (fCons (fun e => shr false ((fTup (fCons (fun e => shr false ((fC (.int 0)) e)) (fCons (fun e => shr false ((fC (.int 1)) e)) (fCons (fun e => shr false ((fC (.int 0)) e)) (fNil))))) e)) (fCons (fun e => shr false ((fTup (fCons (fun e => shr false ((fC (.int 1)) e)) (fCons (fun e => shr false ((fC (.int 0)) e)) (fCons (fun e => shr false ((fC (.int 1)) e)) (fNil))))) e)) (fNil))))) (fVar 1))))
    (fRet (fC (.bool false)))
    (Fl.nx)) <|
  fSq (fIfS (fOrB (fTB (fBin (gEq true) (fFn F_by_rings (fCons (fun e => shr false ((fVar 0) e)) (fCons (fun e => shr false ((fTup (fCons (fun e => shr false ((fC (.int 0)) e)) (fCons (fun e => shr false ((fC (.int 0)) e)) (fCons (fun e => shr false ((fC (.int 0)) e)) (fNil))))) e)) (fCons (fun e => shr false ((fTup (fCons (fun e => shr false ((fC (.int 0)) e)) (fCons (fun e => shr false ((fC (.int 0)) e)) (fCons (fun e => shr false ((fC (.int 1)) e)) (fNil))))) e)) (fNil))))) (fTup (fCons (fun e => shr false ((fC (.str "town")) e)) (fCons (fun e => shr false ((fC (.int 1)) e)) (fNil)))))) (fTB (fBin (gEq true) (fFn F_by_rings (fCons (fun e => shr false ((fVar 0) e)) (fCons (fun e => shr false ((fTup (fCons (fun e => shr false ((fC (.int 0)) e)) (fCons (fun e => shr false ((fC (.int 0)) e)) (fCons (fun e => shr false ((fC (.int 0)) e)) (fNil))))) e)) (fCons (fun e => shr false ((fTup (fCons (fun e => shr false ((fC (.int 0)) e)) (fCons (fun e => shr false ((fC (.int 0)) e)) (fCons (fun e => shr false ((fC (.int 0)) e)) (fNil))))) e)) (fNil))))) (fTup (fCons (fun e => shr false ((fC (.str "row")) e)) (fCons (fun e => shr false ((fTup (fNil)) e)) (fNil)))))))
    (fRet (fC (.bool false)))
    (Fl.nx)) <|
  fSq (fIfS (fTB (fBin (gIs true) (fFnK F_shows_by_rings [3, 2, 1, 0] (fCons (fun e => shr false ((fVar 1) e)) (fCons (fun e => shr false ((fTup (fCons (fun e => shr false ((fC (.int 1)) e)) (fCons (fun e => shr false ((fC (.int 0)) e)) (fCons (fun e => shr false ((fC (.int 1)) e)) (fNil))))) e)) (fCons (fun e => shr false ((fTup (fCons (fun e => shr false ((fC (.int 0)) e)) (fCons (fun e => shr false ((fC (.int 1)) e)) (fCons (fun e => shr false ((fC (.int 0)) e)) (fNil))))) e)) (fCons (fun e => shr false ((fVar 0) e)) (fNil)))))) (fC (.bool true))))
    (fRet (fC (.bool false)))
    (Fl.nx)) <|
  fSq (fIfS (fTB (fBin (gIs true) (fFn F_shows_by_rings (fCons (fun e => shr false ((fVar 0) e)) (fCons (fun e => shr false ((fTup (fCons (fun e => shr false ((fC (.int 0)) e)) (fCons (fun e => shr false ((fC (.int 1)) e)) (fCons (fun e => shr false ((fC (.int 0)) e)) (fNil))))) e)) (fCons (fun e => shr false ((fTup (fCons (fun e => shr false ((fC (.int 0)) e)) (fCons (fun e => shr false ((fC (.int 1)) e)) (fCons (fun e => shr false ((fC (.int 0)) e)) (fNil))))) e)) (fCons (fun e => shr false ((fTup (fCons (fun e => shr false ((fC (.str "row")) e)) (fCons (fun e => shr false ((fBin gMul (fBin gIx (fVar 1) (fC (.int 1))) (fC (.int 2))) e)) (fNil)))) e)) (fNil)))))) (fC (.bool true))))
    (fRet (fC (.bool false)))
    (Fl.nx)) <|
  fSq (fIfS (fTB (fBin (gIs true) (fFn F_shows_by_rings (fCons (fun e => shr false ((fVar 0) e)) (fCons (fun e => shr false ((fTup (fCons (fun e => shr false ((fC (.int 0)) e)) (fCons (fun e => shr false ((fC (.int 0)) e)) (fCons (fun e => shr false ((fC (.int 0)) e)) (fNil))))) e)) (fCons (fun e => shr false ((fTup (fCons (fun e => shr false ((fC (.int 0)) e)) (fCons (fun e => shr false ((fC (.int 0)) e)) (fCons (fun e => shr false ((fC (.int 1)) e)) (fNil))))) e)) (fCons (fun e => shr false ((fTup (fCons (fun e => shr false ((fC (.str "town")) e)) (fCons (fun e => shr false ((fC (.int 2)) e)) (fNil)))) e)) (fNil)))))) (fC (.bool true))))
    (fRet (fC (.bool false)))
    (Fl.nx)) <|
  fRet (fBin (gIs false) (fFn F_shows_by_rings (fCons (fun e => shr false ((fVar 0) e)) (fCons (fun e => shr false ((fTup (fCons (fun e => shr false ((fC (.int 0)) e)) (fCons (fun e => shr false ((fC (.int 1)) e)) (fCons (fun e => shr false ((fC (.int 0)) e)) (fNil))))) e)) (fCons (fun e => shr false ((fTup (fCons (fun e => shr false ((fC (.int 0)) e)) (fCons (fun e => shr false ((fC (.int 1)) e)) (fCons (fun e => shr false ((fC (.int 0)) e)) (fNil))))) e)) (fCons (fun e => shr false ((fVar 1) e)) (fNil)))))) (fC (.bool false)))
theorem e__law_rings_right : blkS (sts 60 (C__law_rings_right) 60) (defBody s__law_rings_right) = g__law_rings_right := by kernel_rfl
def F__law_rings_right : Fn := ⟨false, runB false 2 g__law_rings_right⟩
/-! _law_shores_right -/
abbrev s__law_shores_right : Stmt := topS 67
def N__law_shores_right : List Str := ["_law_three", "_law_told", "_law_words"]
def p__law_shores_right : List Str := ["_law_three"]
theorem S__law_shores_right : FnScope N__law_shores_right p__law_shores_right (defScope s__law_shores_right) := ⟨rfl, rfl, rfl, by decide +kernel, rfl, by decide +kernel, by decide +kernel⟩
def t__law_shores_right : Str → Option (Nat × Bool × Fn) := fun x => if x = "heights" then some (3, false, F_heights) else if x = "shows_by_shores" then some (4, false, F_shows_by_shores) else if x = "by_shores" then some (3, false, F_by_shores) else if x = "lead" then some (3, false, F_lead) else none
def k__law_shores_right : Str → List Str → Option (List Nat) := fun x kn => if x = "heights" ∧ kn = (["other", "one", "plan"] : List Str) then some [2, 1, 0] else if x = "shows_by_shores" ∧ kn = (["thing", "other", "one", "plan"] : List Str) then some [3, 2, 1, 0] else if x = "by_shores" ∧ kn = (["other", "one", "plan"] : List Str) then some [2, 1, 0] else if x = "lead" ∧ kn = (["walk", "signing", "plan"] : List Str) then some [2, 1, 0] else none
def C__law_shores_right : Cc := { N := N__law_shores_right, io := false, sc := defScope s__law_shores_right, fn := fun _ => true, fs := t__law_shores_right, cs := csT, fr := frT, xs := fun _ => false, wn := 4096, ks := k__law_shores_right, ec := ecT, ds := dsT }
def g__law_shores_right : Ev → Fl :=
  fSq (fAsg false 1 (fun e => shrS false ((fTup (fCons (fun e => shr false ((fC (.str "row")) e)) (fCons (fun e => shr false ((fTup (fCons (fun e => shr false ((fTup (fCons (fun e => shr false ((fC (.str "shore")) e)) (fCons (fun e => shr false ((fTup (fCons (fun e => shr false ((fC (.int 0)) e)) (fNil))) e)) (fNil)))) e)) (fNil))) e)) (fNil)))) e))) <|
  fSq (fIfS (fTB (fBin (gEq true) (fFnK F_heights [2, 1, 0] (fCons (fun e => shr false ((fTup (fCons (fun e => shr false ((fC (.int 1)) e)) (fCons (fun e => shr false ((fC (.int 1)) e)) (fCons (fun e => shr false ((fC (.int 0)) e)) (fNil))))) e)) (fCons (fun e => shr false ((fTup (fCons (fun e => shr false ((fC (.int 0)) e)) (fCons (fun e => shr false ((fC (.int 0)) e)) (fCons (fun e => shr false ((fC (.int 0)) e)) (fNil))))) e)) (fCons (fun e => shr false ((fVar 0) e)) (fNil))))) (fTup (fCons (fun e => shr false ((fC (.int 0)) e)) (fCons (fun e => shr false ((fC (.int 1)) e)) (fCons (fun e => shr false ((fC (.int 1)) e)) (fNil)))))))
    (fRet (fC (.bool false)))
    (Fl.nx)) <|
  fSq (fIfS (fTB (fBin (gIs true) (fFn F_heights (fCons (fun e => shr false ((fVar 0) e)) (fCons (fun e => shr false ((fTup (fCons (fun e => shr false ((fC (.int 0)) e)) (fCons (fun e => shr false ((fC (.int 0)) e)) (fCons (fun e => shr false ((fC (.int 0)) e)) (fNil))))) e)) (fCons (fun e => shr false ((fTup (fCons (fun e => shr false ((fC (.int 0)) e)) (fCons (fun e => shr false ((fC (.int 0)) e)) (fCons (fun e => shr false ((fC (.int 1)) e)) (fNil))))) e)) (fNil))))) (fC .none)))
    (fRet (fC (.bool false)))
    (Fl.nx)) <|
  fSq (fIfS (fOrB (fTB (fBin (gIs true) (fFn F_heights (fCons (fun e => shr false ((fVar 0) e)) (fCons (fun e => shr false ((fTup (fCons (fun e => shr false ((fC (.int 0)) e)) (fCons (fun e => shr false ((fC (.int 0)) e)) (fCons (fun e => shr false ((fC (.int 0)) e)) (fNil))))) e)) (fCons (fun e => shr false ((fTup (fCons (fun e => shr false ((fC (.int 1)) e)) (fCons (fun e => shr false ((fC (.int 1)) e)) (fCons (fun e => shr false ((fC (.int 1)) e)) (fNil))))) e)) (fNil))))) (fC .none))) (fTB (fBin (gEq true) (fFn F_heights (fCons (fun e => shr false ((fVar 0) e)) (fCons (fun e => shr false ((fTup (fCons (fun e => shr false ((fC (.int 1)) e)) (fCons (fun e => shr false ((fC (.int 1)) e)) (fCons (fun e => shr false ((fC (.int 0)) e)) (fNil))))) e)) (fCons (fun e => shr false ((fTup (fCons (fun e => shr false ((fC (.int 0)) e)) (fCons (fun e => shr false ((fC (.int 0)) e)) (fCons (fun e => shr false ((fC (.int 0)) e)) (fNil))))) e)) (fNil))))) (fTup (fCons (fun e => shr false ((fC (.int 1)) e)) (fCons (fun e => shr false ((fC (.int 0)) e)) (fCons (fun e => shr false ((fC (.int 0)) e)) (fNil))))))))
    (fRet (fC (.bool false)))
    (Fl.nx)) <|
  fSq (fIfS (fTB (fBin (gIs true) (fFnK F_shows_by_shores [3, 2, 1, 0] (fCons (fun e => shr false ((fVar 1) e)) (fCons (fun e => shr false ((fTup (fCons (fun e => shr false ((fC (.int 1)) e)) (fCons (fun e => shr false ((fC (.int 1)) e)) (fCons (fun e => shr false ((fC (.int 0)) e)) (fNil))))) e)) (fCons (fun e => shr false ((fTup (fCons (fun e => shr false ((fC (.int 0)) e)) (fCons (fun e => shr false ((fC (.int 0)) e)) (fCons (fun e => shr false ((fC (.int 0)) e)) (fNil))))) e)) (fCons (fun e => shr false ((fVar 0) e)) (fNil)))))) (fC (.bool true))))
    (fRet (fC (.bool false)))
    (Fl.nx)) <|
  fSq (fIfS (fTB (fBin (gIs true) (fFn F_shows_by_shores (fCons (fun e => shr false ((fVar 0) e)) (fCons (fun e => shr false ((fTup (fCons (fun e => shr false ((fC (.int 0)) e)) (fCons (fun e => shr false ((fC (.int 0)) e)) (fCons (fun e => shr false ((fC (.int 0)) e)) (fNil))))) e)) (fCons (fun e => shr false ((fTup (fCons (fun e => shr false ((fC (.int 0)) e)) (fCons (fun e => shr false ((fC (.int 0)) e)) (fCons (fun e => shr false ((fC (.int 1)) e)) (fNil))))) e)) (fCons (fun e => shr false ((fTup (fCons (fun e => shr false ((fC (.str "walk")) e)) (fCons (fun e => shr false ((fC (.int 0)) e)) (fCons (fun e => shr false ((fTup (fCons (fun e => shr false ((fC (.int 0)) e)) (fCons (fun e => shr false ((fC (.int 2)) e)) (fCons (fun e => shr false ((fC (.int 1)) e)) (fNil))))) e)) (fNil))))) e)) (fNil)))))) (fC (.bool true))))
    (fRet (fC (.bool false)))
    (Fl.nx)) <|
  fSq (fAsg false 2 (fun e => shrS false ((fLst (fCons (fun e => shr false ((fBin gIx (fFnK F_by_shores [2, 1, 0] (fCons (fun e => shr false ((fTup (fCons (fun e => shr false ((fC (.int 1)) e)) (fCons (fun e => shr false ((fC (.int 1)) e)) (fCons (fun e => shr false ((fC (.int 0)) e)) (fNil))))) e)) (fCons (fun e => shr false ((fTup (fCons (fun e => shr false ((fC (.int 0)) e)) (fCons (fun e => shr false ((fC (.int 0)) e)) (fCons (fun e => shr false ((fC (.int 0)) e)) (fNil))))) e)) (fCons (fun e => shr false ((fVar 0) e)) (fNil))))) (fC (.int 0))) e)) (fCons (fun e => shr false ((fBin gIx (fFn F_by_shores (fCons (fun e => shr false ((fVar 0) e)) (fCons (fun e => shr false ((fTup (fCons (fun e => shr false ((fC (.int 0)) e)) (fCons (fun e => shr false ((fC (.int 0)) e)) (fCons (fun e => shr false ((fC (.int 0)) e)) (fNil))))) e)) (fCons (fun e => shr false ((fTup (fCons (fun e => shr false ((fC (.int 0)) e)) (fCons (fun e => shr false ((fC (.int 0)) e)) (fCons (fun e => shr false ((fC (.int 1)) e)) (fNil))))) e)) (fNil))))) (fC (.int 0))) e)) (fNil)))) e))) <|
  fSq (fIfS (fTB (fBin (gEq true) (fVar 2) (fLst (fCons (fun e => shr false ((fC (.str "row")) e)) (fCons (fun e => shr false ((fC (.str "walk")) e)) (fNil))))))
    (fRet (fC (.bool false)))
    (Fl.nx)) <|
  fSq (fIfS (fOrB (fTB (fBin (gEq true) (fFnK F_lead [2, 1, 0] (fCons (fun e => shr false ((fTup (fCons (fun e => shr false ((fC (.int 0)) e)) (fCons (fun e => shr false ((fTup (fCons (fun e => shr false ((fC (.int 0)) e)) (fCons (fun e => shr false ((fC (.int 2)) e)) (fCons (fun e => shr false ((fC (.int 1)) e)) (fNil))))) e)) (fNil)))) e)) (fCons (fun e => shr false ((fTup (fCons (fun e => shr false ((fC (.int 0)) e)) (fCons (fun e => shr false ((fC (.int 0)) e)) (fCons (fun e => shr false ((fC (.int 0)) e)) (fNil))))) e)) (fCons (fun e => shr false ((fVar 0) e)) (fNil))))) (fC (.int 1)))) (fTB (fBin (gEq true) (fFn F_lead (fCons (fun e => shr false ((fVar 0) e)) (fCons (fun e => shr false ((fTup (fCons (fun e => shr false ((fC (.int 0)) e)) (fCons (fun e => shr false ((fC (.int 0)) e)) (fCons (fun e => shr false ((fC (.int 1)) e)) (fNil))))) e)) (fCons (fun e => shr false ((fTup (fCons (fun e => shr false ((fC (.int 0)) e)) (fCons (fun e => shr false ((fTup (fCons (fun e => shr false ((fC (.int 0)) e)) (fCons (fun e => shr false ((fC (.int 2)) e)) (fCons (fun e => shr false ((fC (.int 1)) e)) (fNil))))) e)) (fNil)))) e)) (fNil))))) (fNeg (fC (.int 1))))))
    (fRet (fC (.bool false)))
    (Fl.nx)) <|
  fRet (fAndV (fBin gEqE (fFn F_lead (fCons (fun e => shr false ((fVar 0) e)) (fCons (fun e => shr false ((fTup (fCons (fun e => shr false ((fC (.int 0)) e)) (fCons (fun e => shr false ((fC (.int 1)) e)) (fCons (fun e => shr false ((fC (.int 0)) e)) (fNil))))) e)) (fCons (fun e => shr false ((fTup (fCons (fun e => shr false ((fC (.int 0)) e)) (fCons (fun e => shr false ((fBin gMul (fTup (fCons (fun e => shr false ((fC (.int 0)) e)) (fCons (fun e => shr false ((fC (.int 2)) e)) (fCons (fun e => shr false ((fC (.int 1)) e)) (fNil))))) (fC (.int 2))) e)) (fNil)))) e)) (fNil))))) (fC (.int 6))) (fBin gEqE (fFn F_lead (fCons (fun e => shr false ((fVar 0) e)) (fCons (fun e => shr false ((fTup (fCons (fun e => shr false ((fC (.int 0)) e)) (fCons (fun e => shr false ((fC (.int 0)) e)) (fCons (fun e => shr false ((fC (.int 0)) e)) (fNil))))) e)) (fCons (fun e => shr false ((fTup (fCons (fun e => shr false ((fC (.int 2)) e)) (fCons (fun e => shr false ((fTup (fCons (fun e => shr false ((fC (.int 1)) e)) (fCons (fun e => shr false ((fC (.int 1)) e)) (fNil)))) e)) (fNil)))) e)) (fNil))))) (fC (.int 0))))
theorem e__law_shores_right : blkS (sts 60 (C__law_shores_right) 60) (defBody s__law_shores_right) = g__law_shores_right := by kernel_rfl
def F__law_shores_right : Fn := ⟨false, runB false 3 g__law_shores_right⟩
/-! _law_two_right -/
abbrev s__law_two_right : Stmt := topS 68
def N__law_two_right : List Str := ["_law_sign", "_law_two", "_law_here", "_law_there"]
def p__law_two_right : List Str := ["_law_sign"]
theorem S__law_two_right : FnScope N__law_two_right p__law_two_right (defScope s__law_two_right) := ⟨rfl, rfl, rfl, by decide +kernel, rfl, by decide +kernel, by decide +kernel⟩
def t__law_two_right : Str → Option (Nat × Bool × Fn) := fun x => if x = "heights" then some (3, false, F_heights) else if x = "by_rings" then some (3, false, F_by_rings) else none
def k__law_two_right : Str → List Str → Option (List Nat) := fun x kn => none
def C__law_two_right : Cc := { N := N__law_two_right, io := false, sc := defScope s__law_two_right, fn := fun _ => true, fs := t__law_two_right, cs := csT, fr := frT, xs := fun _ => false, wn := 4096, ks := k__law_two_right, ec := ecT, ds := dsT }
def g__law_two_right : Ev → Fl :=
  fSq (fPars false [1, 2, 3] [fTup (fCons (fun e => shr false ((fC (.int 2)) e)) (fCons (fun e => shr false ((fTup (fCons (fun e => shr false ((fTup (fCons (fun e => shr false ((fC (.int 0)) e)) (fCons (fun e => shr false ((fC (.int 1)) e)) (fNil)))) e)) (fCons (fun e => shr false ((fTup (fCons (fun e => shr false ((fC (.int 0)) e)) (fCons (fun e => shr false ((fC (.int 1)) e)) (fNil)))) e)) (fNil)))) e)) (fNil))), fTup (fCons (fun e => shr false ((fVar 0) e)) (fCons (fun e => shr false ((fBin gSub (fC (.int 1)) (fVar 0)) e)) (fNil))), fTup (fCons (fun e => shr false ((fBin gSub (fC (.int 1)) (fVar 0)) e)) (fCons (fun e => shr false ((fVar 0) e)) (fNil)))]) <|
  fSq (fIfS (fOrB (fTB (fBin (gEq true) (fFn F_by_rings (fCons (fun e => shr false ((fVar 1) e)) (fCons (fun e => shr false ((fVar 2) e)) (fCons (fun e => shr false ((fVar 3) e)) (fNil))))) (fTup (fCons (fun e => shr false ((fC (.str "row")) e)) (fCons (fun e => shr false ((fTup (fCons (fun e => shr false ((fTup (fCons (fun e => shr false ((fC (.str "ring")) e)) (fCons (fun e => shr false ((fTup (fCons (fun e => shr false ((fC (.int 0)) e)) (fCons (fun e => shr false ((fC (.int 1)) e)) (fNil)))) e)) (fNil)))) e)) (fNil))) e)) (fNil)))))) (fTB (fBin (gIs true) (fFn F_heights (fCons (fun e => shr false ((fVar 1) e)) (fCons (fun e => shr false ((fVar 2) e)) (fCons (fun e => shr false ((fVar 3) e)) (fNil))))) (fC .none))))
    (fRet (fC (.bool false)))
    (Fl.nx)) <|
  fSq (fIfS (fTB (fBin (gEq true) (fFn F_heights (fCons (fun e => shr false ((fVar 1) e)) (fCons (fun e => shr false ((fTup (fCons (fun e => shr false ((fVar 0) e)) (fCons (fun e => shr false ((fVar 0) e)) (fNil)))) e)) (fCons (fun e => shr false ((fTup (fCons (fun e => shr false ((fBin gSub (fC (.int 1)) (fVar 0)) e)) (fCons (fun e => shr false ((fBin gSub (fC (.int 1)) (fVar 0)) e)) (fNil)))) e)) (fNil))))) (fIf (fTB (fBin gEqE (fVar 0) (fC (.int 0)))) (fTup (fCons (fun e => shr false ((fC (.int 0)) e)) (fCons (fun e => shr false ((fC (.int 1)) e)) (fNil)))) (fTup (fCons (fun e => shr false ((fC (.int 1)) e)) (fCons (fun e => shr false ((fC (.int 0)) e)) (fNil)))))))
    (fRet (fC (.bool false)))
    (Fl.nx)) <|
  fRet (fAndV (fBin gEqE (fFn F_by_rings (fCons (fun e => shr false ((fVar 1) e)) (fCons (fun e => shr false ((fTup (fCons (fun e => shr false ((fVar 0) e)) (fCons (fun e => shr false ((fVar 0) e)) (fNil)))) e)) (fCons (fun e => shr false ((fVar 2) e)) (fNil))))) (fTup (fCons (fun e => shr false ((fC (.str "town")) e)) (fCons (fun e => shr false ((fC (.int 0)) e)) (fNil))))) (fBin gEqE (fFn F_by_rings (fCons (fun e => shr false ((fTup (fCons (fun e => shr false ((fC (.int 1)) e)) (fCons (fun e => shr false ((fTup (fNil)) e)) (fNil)))) e)) (fCons (fun e => shr false ((fTup (fNil)) e)) (fCons (fun e => shr false ((fTup (fNil)) e)) (fNil))))) (fTup (fCons (fun e => shr false ((fC (.str "row")) e)) (fCons (fun e => shr false ((fTup (fNil)) e)) (fNil))))))
theorem e__law_two_right : blkS (sts 60 (C__law_two_right) 60) (defBody s__law_two_right) = g__law_two_right := by kernel_rfl
def F__law_two_right : Fn := ⟨false, runB false 4 g__law_two_right⟩
/-! law -/
abbrev s_law : Stmt := topS 69
def N_law : List Str := ["_law_script", "_law_three", "_law_k", "_law_sign"]
def p_law : List Str := ["_law_script"]
theorem S_law : FnScope N_law p_law (defScope s_law) := ⟨rfl, rfl, rfl, by decide +kernel, rfl, by decide +kernel, by decide +kernel⟩
def t_law : Str → Option (Nat × Bool × Fn) := fun x => if x = "_law_draw" then some (2, true, F__law_draw) else if x = "_law_pen" then some (1, false, F__law_pen) else if x = "heights" then some (3, false, F_heights) else if x = "by_shores" then some (3, false, F_by_shores) else if x = "_law_cell_at" then some (2, false, F__law_cell_at) else if x = "_law_rings_right" then some (1, false, F__law_rings_right) else if x = "_law_shores_right" then some (1, false, F__law_shores_right) else if x = "_law_two_right" then some (1, false, F__law_two_right) else none
def k_law : Str → List Str → Option (List Nat) := fun x kn => none
def C_law : Cc := { N := N_law, io := false, sc := defScope s_law, fn := fun _ => true, fs := t_law, cs := csT, fr := frT, xs := fun _ => false, wn := 4096, ks := k_law, ec := ecT, ds := dsT }
def g_law : Ev → Fl :=
  fSq (fAsg false 1 (fun e => shrS false ((fTup (fCons (fun e => shr false ((fC (.int 3)) e)) (fCons (fun e => shr false ((fTup (fCons (fun e => shr false ((fTup (fCons (fun e => shr false ((fC (.int 0)) e)) (fCons (fun e => shr false ((fC (.int 1)) e)) (fNil)))) e)) (fCons (fun e => shr false ((fTup (fCons (fun e => shr false ((fC (.int 0)) e)) (fCons (fun e => shr false ((fC (.int 2)) e)) (fNil)))) e)) (fCons (fun e => shr false ((fTup (fCons (fun e => shr false ((fC (.int 1)) e)) (fCons (fun e => shr false ((fC (.int 2)) e)) (fNil)))) e)) (fNil))))) e)) (fNil)))) e))) <|
  fTry (fSq (fFor (tgN false 2) (fRng1 (fCons (fCal gMax (fCons (fC (.int 1)) (fCons (fCal gMin (fCons (fCal gLen (fCons (fVar 0) fNil)) (fCons (fC (.int 3)) fNil))) fNil))) fNil))
      (fSq (fAsg false 3 (fun e => shrS false ((fFn2 F__law_draw F__law_pen 2 (fCons (fun e => shr false ((fFn F__law_cell_at (fCons (fun e => shr false ((fVar 0) e)) (fCons (fun e => shr false ((fVar 2) e)) (fNil)))) e)) (fNil))) e))) <|
        fIfS (fOrB (fNotB (fTru (fFn F__law_rings_right (fCons (fun e => shr false ((fVar 1) e)) (fNil))))) (fOrB (fNotB (fTru (fFn F__law_shores_right (fCons (fun e => shr false ((fVar 1) e)) (fNil))))) (fNotB (fTru (fFn F__law_two_right (fCons (fun e => shr false ((fVar 3) e)) (fNil)))))))
        (fRet (fC (.bool false)))
        (Fl.nx))) <|
    fRet (fAndV (fBin gEqE (fFn F_heights (fCons (fun e => shr false ((fTup (fCons (fun e => shr false ((fC (.int 1)) e)) (fCons (fun e => shr false ((fTup (fNil)) e)) (fNil)))) e)) (fCons (fun e => shr false ((fTup (fNil)) e)) (fCons (fun e => shr false ((fTup (fNil)) e)) (fNil))))) (fTup (fCons (fun e => shr false ((fC (.int 0)) e)) (fNil)))) (fBin gEqE (fFn F_by_shores (fCons (fun e => shr false ((fTup (fCons (fun e => shr false ((fC (.int 1)) e)) (fCons (fun e => shr false ((fTup (fNil)) e)) (fNil)))) e)) (fCons (fun e => shr false ((fTup (fNil)) e)) (fCons (fun e => shr false ((fTup (fNil)) e)) (fNil))))) (fTup (fCons (fun e => shr false ((fC (.str "row")) e)) (fCons (fun e => shr false ((fTup (fNil)) e)) (fNil)))))))
theorem e_law : blkS (sts 60 (C_law) 60) (defBody s_law) = g_law := by kernel_rfl
def F_law : Fn := ⟨false, runB false 4 g_law⟩

end LW
namespace LW
open PySem PySem.Spec PyProof.Rows L2 PV
/-! ### the pen -/
def PenOk (n : Nat) (p : List PyData) : Prop := ∃ a b c : Int, p = [.int a, .int b, .int c] ∧ 0 ≤ b ∧ b < 1000000007 ∧ 0 ≤ c ∧ c ≤ n
theorem PenOk.mono {n m : Nat} {p : List PyData} (h : PenOk n p) (hm : n ≤ m) : PenOk m p := by
  obtain ⟨a, b, c, h1, h2, h3, h4, h5⟩ := h
  exact ⟨a, b, c, h1, h2, h3, h4, by omega⟩
theorem draw_den {n : Nat} {p : List PyData} {m : Int} (hp : PenOk n p) (hn : n ≤ 1000000) (h0 : 0 < m) (h1 : m < 1073741824) : ∃ k p', F__law_draw.den [.list p, .int m] = .ret (.int k) p' ∧ 0 ≤ k ∧ k < m ∧ PenOk (n + 1) p' := by
  obtain ⟨a, b, c, rfl, hb0, hb1, hc0, hc1⟩ := hp
  show ∃ k p', endF true (g__law_draw [.ow [.int a, .int b, .int c], .sh (.int m), .un, .un]) = .ret (.int k) p' ∧ 0 ≤ k ∧ k < m ∧ PenOk (n + 1) p'
  have ix : ∀ {p : List PyData} {s2 s3 : Sl} {k : Int} {x : PyData}, atI p k = some x → Px (fBin gIx (fVar 0) (fC (.int k))) [.ow p, .sh (.int m), s2, s3] x := fun h => px_ixL (vl_ow rfl) px_c.vl h
  have vm : ∀ {p : List PyData} {s2 s3 : Sl}, Px (fVar 1) [.ow p, .sh (.int m), s2, s3] (.int m) := px_var rfl
  unfold g__law_draw
  by_cases ha : 0 < a
  · refine ⟨a % m, [.int (a / m), .int b, .int c], ?_, Int.emod_nonneg _ (by omega), Int.emod_lt_of_pos _ h0, a / m, b, c, rfl, hb0, hb1, hc0, by omega⟩
    refine congrArg (endF true) (a₂ := .rt (.sh (.int (a % m))) [.ow [.int (a / m), .int b, .int c], .sh (.int m), .sh (.int (a % m)), .un]) (sq_rt ?_)
    refine (ifs_t (bt_t (bt_tb (px_gt (ix (p := [.int a, .int b, .int c]) rfl) px_c)) ha)).trans ?_
    refine (sq_nx (e1 := [.ow [.int a, .int b, .int c], .sh (.int m), .sh (.int (a % m)), .un]) (nx_of (asg_sh (px_mod (ix rfl) vm h0) rfl (by simp)) rfl)).trans ?_
    refine (sq_nx (e1 := [.ow [.int (a / m), .int b, .int c], .sh (.int m), .sh (.int (a % m)), .un]) (nx_of (set_ow (px_div (ix rfl) vm ⟨h0, h1⟩) rfl px_c.vl rfl) rfl)).trans ?_
    exact ret_px (px_var rfl)
  · have hs : ∀ x : Int, Px (fVar 3) [.ow [.int a, .int b, .int (c + 1)], .sh (.int m), .un, .sh (.int x)] (.int x) := fun x => px_var rfl
    have hm1 : 0 ≤ (b + 17 * (c + 1)) ∧ b + 17 * (c + 1) < 18446744073709551616 := by omega
    obtain ⟨x, hx⟩ : ∃ x, x = (b + 17 * (c + 1)) * (69621 + 2 * (c + 1)) % 2147483647 := ⟨_, rfl⟩
    have hx0 : 0 ≤ x ∧ x < 2147483647 := by rw [hx]; exact ⟨Int.emod_nonneg _ (by decide), Int.emod_lt_of_pos _ (by decide)⟩
    obtain ⟨y, hy⟩ : ∃ y, y = (x * x + 40503 * (c + 1) + 5) % 2147483629 := ⟨_, rfl⟩
    have hy0 : 0 ≤ y ∧ y < 2147483629 := by rw [hy]; exact ⟨Int.emod_nonneg _ (by decide), Int.emod_lt_of_pos _ (by decide)⟩
    refine ⟨y * 48271 % 2147483647 / 32 % m, [.int a, .int b, .int (c + 1)], ?_, Int.emod_nonneg _ (by omega), Int.emod_lt_of_pos _ h0, a, b, c + 1, rfl, hb0, hb1, by omega, by omega⟩
    refine congrArg (endF true) (a₂ := .rt (.sh (.int (y * 48271 % 2147483647 / 32 % m))) [.ow [.int a, .int b, .int (c + 1)], .sh (.int m), .un, .sh (.int y)]) ?_
    refine (sq_nx (ifs_f (bt_f (bt_tb (px_gt (ix (p := [.int a, .int b, .int c]) rfl) px_c)) ha))).trans ?_
    refine (sq_nx (e1 := [.ow [.int a, .int b, .int (c + 1)], .sh (.int m), .un, .un]) (nx_of (set_ow (px_add (ix (p := [.int a, .int b, .int c]) rfl) px_c) rfl px_c.vl rfl) rfl)).trans ?_
    refine (sq_nx (e1 := [.ow [.int a, .int b, .int (c + 1)], .sh (.int m), .un, .sh (.int x)]) ?_).trans ?_
    · rw [hx]
      exact nx_of (asg_sh (px_mod (px_mul (px_add (ix rfl) (px_mul px_c (ix rfl) (.inl (by decide)))) (px_add px_c (px_mul px_c (ix rfl) (.inl (by decide)))) (.inl (by omega))) px_c (by decide)) rfl (by simp)) rfl
    refine (sq_nx (e1 := [.ow [.int a, .int b, .int (c + 1)], .sh (.int m), .un, .sh (.int y)]) ?_).trans ?_
    · rw [hy]
      exact nx_of (asg_sh (px_mod (px_add (px_add (px_mul (hs x) (hs x) (.inl (by omega))) (px_mul px_c (ix rfl) (.inl (by decide)))) px_c) px_c (by decide)) rfl (by simp)) rfl
    exact ret_px (px_mod (px_div (px_mod (px_mul (hs y) px_c (.inl (by omega))) px_c (by decide)) px_c (by decide)) vm h0)

theorem ints_of (ns : List Int) : intsOf (ns.map .int) = some ns := by
  induction ns with
  | nil => rfl
  | cons n r ih => simp only [List.map_cons, intsOf, ih, Option.map_some]
theorem atI_nat {α : Type} {xs : List α} {k : Nat} (h : k < xs.length) : atI xs (k : Int) = some xs[k] := by
  unfold atI ixN
  rw [if_pos (by omega), if_pos (by omega)]
  simp [List.getElem?_eq_getElem h]
theorem cell_den (ns : List Int) (k : Nat) : ∃ z, F__law_cell_at.den [scrD ns, .int (k : Int)] = .ret (.int z) [] := by
  show ∃ z, endF false (g__law_cell_at [.sh (scrD ns), .sh (.int k)]) = .ret (.int z) []
  unfold g__law_cell_at
  have hl : Px (fBin gLt (fVar 1) (fCal gLen (fCons (fVar 0) fNil))) [.sh (scrD ns), .sh (.int k)] (.bool (decide ((k : Int) < (ns.length : Int)))) := by
    have h1 : Px (fCal gLen (fCons (fVar 0) fNil)) [.sh (scrD ns), .sh (.int k)] (.int ns.length) := px_cal (lv_cons (px_var rfl).vl lv_nil) (by
      show some (Od.sh (.int ((ns.map PyData.int).length : Int))) = _
      rw [List.length_map])
    exact px_lt (px_var rfl) h1
  by_cases h : (k : Int) < (ns.length : Int)
  · have hk : k < ns.length := by omega
    refine ⟨ns[k], congrArg (endF false) (a₂ := .rt (.sh (.int ns[k])) [.sh (scrD ns), .sh (.int k)]) (sq_rt ((ifs_t (bt_t (bt_tb hl) h)).trans ?_))⟩
    refine ret_px (px_bin (px_var rfl).vl (px_var rfl).vl ?_)
    show (match intsOf (ns.map PyData.int) with
        | some ns => (atI ns (k : Int)).map fun n => Od.sh (.int n)
        | none => none) = _
    rw [ints_of]
    show (atI ns (k : Int)).map _ = _
    rw [atI_nat hk]
    rfl
  · exact ⟨0, congrArg (endF false) (a₂ := .rt (.sh (.int 0)) [.sh (scrD ns), .sh (.int k)]) ((sq_nx (ifs_f (bt_f (bt_tb hl) h))).trans (ret_px px_c))⟩
theorem pen_den (z : Int) : ∃ p, F__law_pen.den [.int z] = .fresh p [] ∧ PenOk 0 p := by
  show ∃ p, endF false (g__law_pen [.sh (.int z)]) = .fresh p [] ∧ PenOk 0 p
  unfold g__law_pen
  refine ⟨[.int (if z - 10 ^ 18 > 0 then z - 10 ^ 18 else 0), .int (z % 1000000007), .int 0], congrArg (endF false) (a₂ := .rt (.fl _) [.sh (.int z)]) (ret_fx (fx_lst (ls_px ?_ (ls_px (px_mod (px_var rfl) px_c (by decide)) (ls_px px_c ls_nil))) (le_line (show 3 ≤ 100000 by decide)))), _, _, _, rfl, Int.emod_nonneg _ (by decide), Int.emod_lt_of_pos _ (by decide), by decide, by decide⟩
  refine px_cal (lv_cons px_c.vl (lv_cons (px_sub (px_var rfl) (px_bin px_c.vl px_c.vl ?_)).vl lv_nil)) rfl
  show (if (0 : Int) ≤ 18 ∧ (18 : Int) ≤ 1000 ∧ (10 : Int).natAbs < 18446744073709551616 then some (Od.sh (.int (10 ^ (18 : Int).toNat))) else none) = _
  rw [if_pos (by decide)]
  rfl

/-! ### a plan is drawn -/
def PlanD (m : Int) (st : List IP) : PyData := .tuple [.int m, .tuple (st.map encP)]
structure Drawn (T M m : Int) (st : List IP) : Prop where
  m0 : 1 ≤ m
  m1 : m ≤ T
  ends : ∀ p ∈ st, 0 ≤ p.1 ∧ p.1 < p.2 ∧ p.2 < m
  hang : ∀ t : Int, 1 ≤ t → t < m → ∃ x, (x, t) ∈ st
  len : (st.length : Int) ≤ M
theorem sx_draw {n : Nat} {p : List PyData} {e : Ev} {m : Int} {i : Nat} {fl : Ev → Rs (List Rv)} (hp : PenOk n p) (hn : n ≤ 1000000) (h0 : 0 < m) (h1 : m < 1073741824) (hi : e.at i = .ow p) (ha : Ls fl e [.int m]) :
    ∃ k p', 0 ≤ k ∧ k < m ∧ PenOk (n + 1) p' ∧ Sx (fFn F__law_draw (fCons (fVar i) fl)) e (.int k) (e.set i (.ow p')) := by
  obtain ⟨k, p', hd, hk0, hk1, hp'⟩ := draw_den hp hn h0 h1
  exact ⟨k, p', hk0, hk1, hp', sx_io rfl hi ha.sl hi hd⟩
/-! ### odd things -/
def oddL : List PyData := [.none, .bool true, .bool false, .int (-1), .int 0, .int 5, .int (10 ^ 12), .str "", .str "ring", .str "shore", .tuple [], .list [], .dict [], .tuple [.int 1], .list [.int 1], .tuple [.tuple []], .tuple [.str "ring", .tuple [.int 0]]]
theorem atI_len {α : Type} {xs : List α} {k : Int} (h0 : 0 ≤ k) (h : k < xs.length) : ∃ x, atI xs k = some x ∧ x ∈ xs := by
  obtain ⟨j, rfl⟩ : ∃ j : Nat, k = j := ⟨k.toNat, by omega⟩
  have hj : j < xs.length := by omega
  exact ⟨xs[j], atI_nat hj, List.getElem_mem hj⟩
/-! ### looks at one thing -/
theorem ret_den {g : Ev → Fl} {n : Nat} {ds : List PyData} {d : PyData} {e : Ev} (h : g (start0 false n ds) = .rt (.sh d) e) : runB false n g ds = .ret d [] := by
  unfold runB
  rw [h]; rfl
def belowB (d : PyData) (b : Int) : Bool := match d with
  | .int i => decide (0 ≤ i) && decide (i < b)
  | _ => false
def isWholeB : PyData → Bool
  | .int _ => true
  | _ => false
theorem is_whole_den {d : PyData} (h : plainD d = true) : F_is_whole.den [d] = .ret (.bool (isWholeB d)) [] := by
  refine ret_den (e := [.sh d]) ?_
  show g_is_whole [.sh d] = _
  unfold g_is_whole
  have hi : Px (fIsi "int" (fVar 0)) [.sh d] (.bool (isTy "int" d)) := px_isi (by decide) h (px_var rfl)
  have hb : Px (fIsi "bool" (fVar 0)) [.sh d] (.bool (isTy "bool" d)) := px_isi (by decide) h (px_var rfl)
  have := px_and hi fun _ => px_not hb
  cases d <;> exact ret_px this
theorem is_below_den {d : PyData} {b : Int} (h : plainD d = true) : F_is_below.den [d, .int b] = .ret (.bool (belowB d b)) [] := by
  refine ret_den (e := [.sh d, .sh (.int b)]) ?_
  show g_is_below [.sh d, .sh (.int b)] = _
  unfold g_is_below
  have hi : Px (fFn F_is_whole (fCons (fun e => shr false ((fVar 0) e)) (fNil))) [.sh d, .sh (.int b)] (.bool (isWholeB d)) := px_fn rfl (ls_px (px_var rfl) ls_nil) (is_whole_den h)
  cases d with
  | int i =>
    have := px_and hi (fun _ => px_chain (g := gLe) (g' := gLt) (p := decide (0 ≤ i)) (q := decide (i < b)) (px_c (d := .int 0)).vl (px_var (i := 0) rfl).vl rfl fun _ => ⟨(px_var (i := 1) rfl).vl, rfl⟩)
    exact ret_px this
  | bool k => exact ret_px (px_and (q := false) hi fun z => nomatch z)
  | none => exact ret_px (px_and (q := false) hi fun z => nomatch z)
  | str x => exact ret_px (px_and (q := false) hi fun z => nomatch z)
  | list x => exact ret_px (px_and (q := false) hi fun z => nomatch z)
  | tuple x => exact ret_px (px_and (q := false) hi fun z => nomatch z)
  | dict x => exact ret_px (px_and (q := false) hi fun z => nomatch z)
theorem eq_int (a b : Int) : gEqE (.int a) (.int b) = some (.sh (.bool (decide (a = b)))) := by
  have h : gEq false (.int a) (.int b) = some (.sh (.bool (decide (a = b)))) := by
    show (if SeqAt.shaped (.int a) = true ∧ SeqAt.shaped (.int b) = true then some (Od.sh (.bool (PyData.eqv (.int a) (.int b)))) else none) = _
    rw [if_pos ⟨rfl, rfl⟩]
    congr 3
  unfold gEqE
  rw [h]
def pairB : PyData → Bool
  | .tuple xs => decide ((xs.length : Int) = 2)
  | _ => false
theorem is_pair_den {d : PyData} (h : plainD d = true) : F_is_pair.den [d] = .ret (.bool (pairB d)) [] := by
  refine ret_den (e := [.sh d]) ?_
  show g_is_pair [.sh d] = _
  unfold g_is_pair
  have hi : Px (fIsi "tuple" (fVar 0)) [.sh d] (.bool (isTy "tuple" d)) := px_isi (by decide) h (px_var rfl)
  cases d with
  | tuple xs =>
    have hl : Px (fCal gLen (fCons (fVar 0) fNil)) [.sh (.tuple xs)] (.int xs.length) := px_cal (lv_cons (px_var rfl).vl lv_nil) rfl
    exact ret_px (px_and hi fun _ => px_bin hl.vl (px_c (d := .int 2)).vl (eq_int _ _))
  | none => exact ret_px (px_and (q := false) hi fun z => nomatch z)
  | int i => exact ret_px (px_and (q := false) hi fun z => nomatch z)
  | bool k => exact ret_px (px_and (q := false) hi fun z => nomatch z)
  | str x => exact ret_px (px_and (q := false) hi fun z => nomatch z)
  | list x => exact ret_px (px_and (q := false) hi fun z => nomatch z)
  | dict x => exact ret_px (px_and (q := false) hi fun z => nomatch z)

def ltB (a b : PyData) : Bool := match a, b with
  | .int i, .int j => decide (i < j)
  | _, _ => false
def streetB (m : Int) (d : PyData) : Bool := match d with
  | .tuple [a, b] => belowB a m && (belowB b m && ltB a b)
  | _ => false
theorem below_int {d : PyData} {m : Int} (h : belowB d m = true) : ∃ i : Int, d = .int i ∧ 0 ≤ i ∧ i < m := by
  unfold belowB at h
  split at h
  · simp only [Bool.and_eq_true, decide_eq_true_eq] at h
    exact ⟨_, rfl, h⟩
  · cases h
theorem pair_two {d : PyData} (h : pairB d = true) : ∃ a b, d = .tuple [a, b] := by
  unfold pairB at h
  split at h
  · rename_i xs
    have h : (xs.length : Int) = 2 := of_decide_eq_true h
    match xs, h with
    | [a, b], _ => exact ⟨a, b, rfl⟩
    | [], h => simp at h
    | [_], h => simp at h
    | _ :: _ :: _ :: _, h => simp at h; omega
  · cases h
theorem street_pair {m : Int} {d : PyData} (h : pairB d = false) : streetB m d = false := by
  unfold streetB
  split
  · simp [pairB] at h
  · rfl
theorem plain_two {a b : PyData} (h : plainD (.tuple [a, b]) = true) : plainD a = true ∧ plainD b = true := by
  simpa [plainD, plainA] using h
theorem px_below {d : PyData} {m : Int} {e : Ev} {fl : Ev → Rs (List Rv)} (hp : plainD d = true) (h : Ls fl e [d, .int m]) : Px (fFn F_is_below fl) e (.bool (belowB d m)) := px_fn rfl h (is_below_den hp)
theorem px_pair {d : PyData} {e : Ev} {fl : Ev → Rs (List Rv)} (hp : plainD d = true) (h : Ls fl e [d]) : Px (fFn F_is_pair fl) e (.bool (pairB d)) := px_fn rfl h (is_pair_den hp)
theorem is_street_den {m : Int} {d : PyData} (h : plainD d = true) : F_is_street.den [.int m, d] = .ret (.bool (streetB m d)) [] := by
  have h1 : Bt (fNotB (fTru (fFn F_is_pair (fCons (fun e => shr false ((fVar 1) e)) (fNil))))) [.sh (.int m), .sh d, .un, .un] (!pairB d) := bt_not (bt_tru (px_pair h (ls_px (px_var rfl) ls_nil)).vl rfl)
  cases hp : pairB d with
  | false =>
    rw [street_pair hp]
    rw [hp] at h1
    refine ret_den (e := [.sh (.int m), .sh d, .un, .un]) ?_
    show g_is_street [.sh (.int m), .sh d, .un, .un] = _
    unfold g_is_street
    exact sq_rt ((ifs_t h1).trans (ret_px px_c))
  | true =>
    rw [hp] at h1
    obtain ⟨a, b, rfl⟩ := pair_two hp
    obtain ⟨pa, pb⟩ := plain_two h
    refine ret_den (e := [.sh (.int m), .sh (.tuple [a, b]), .sh a, .sh b]) ?_
    show g_is_street [.sh (.int m), .sh (.tuple [a, b]), .un, .un] = _
    unfold g_is_street
    refine (sq_nx (ifs_f h1)).trans ?_
    refine (sq_nx (e1 := [.sh (.int m), .sh (.tuple [a, b]), .sh a, .sh b]) (asgT_px (px_var rfl) rfl)).trans ?_
    refine ret_px (px_and (px_below pa (ls_px (px_var rfl) (ls_px (px_var rfl) ls_nil))) fun ha => px_and (px_below pb (ls_px (px_var rfl) (ls_px (px_var rfl) ls_nil))) fun hb => ?_)
    obtain ⟨i, rfl, _⟩ := below_int ha
    obtain ⟨j, rfl, _⟩ := below_int hb
    exact px_lt (px_var rfl) (px_var rfl)
/-! the law's own looks -/
def wholeB : PyData → Bool
  | .int _ => true
  | _ => false
def withinB (d : PyData) (lo hi : Int) : Bool := match d with
  | .int i => decide (lo ≤ i) && decide (i ≤ hi)
  | _ => false
/-! ### streets -/
theorem plain_mem : ∀ {xs : List PyData}, plainA xs = true → ∀ x ∈ xs, plainD x = true
  | y :: ys, h, x, hx => by
    simp only [plainA, Bool.and_eq_true] at h
    rcases List.mem_cons.mp hx with rfl | hx
    · exact h.1
    · exact plain_mem h.2 x hx
theorem street_enc {m : Int} {d : PyData} (h : streetB m d = true) : ∃ p : IP, d = encP p ∧ 0 ≤ p.1 ∧ p.1 < p.2 ∧ p.2 < m := by
  unfold streetB at h
  split at h
  · simp only [Bool.and_eq_true] at h
    obtain ⟨h1, h2, h3⟩ := h
    obtain ⟨i, rfl, h4, h5⟩ := below_int h1
    obtain ⟨j, rfl, h6, h7⟩ := below_int h2
    have h3 : i < j := of_decide_eq_true h3
    exact ⟨(i, j), rfl, h4, h3, h7⟩
  · cases h
theorem streets_enc {m : Int} : ∀ {xs : List PyData}, xs.all (streetB m) = true → ∃ st : List IP, xs = st.map encP ∧ ∀ p ∈ st, 0 ≤ p.1 ∧ p.1 < p.2 ∧ p.2 < m
  | [], _ => ⟨[], rfl, fun p h => nomatch h⟩
  | x :: xs, h => by
    rw [List.all_cons, Bool.and_eq_true] at h
    obtain ⟨p, rfl, hp⟩ := street_enc h.1
    obtain ⟨st, rfl, hs⟩ := streets_enc h.2
    exact ⟨p :: st, rfl, fun q hq => by
      rcases List.mem_cons.mp hq with rfl | hq
      · exact hp
      · exact hs q hq⟩
theorem bools_of (bs : List Bool) : boolsOf (bs.map .bool) = some bs := by
  induction bs with
  | nil => rfl
  | cons b r ih => simp only [List.map_cons, boolsOf, ih, Option.map_some]
theorem all_bools {α : Type} (f : α → Bool) (xs : List α) : gAll [.list (xs.map fun x => .bool (f x))] = some (.sh (.bool (xs.all f))) := by
  have : (xs.map fun x => PyData.bool (f x)) = (xs.map f).map .bool := by rw [List.map_map]; rfl
  show (boolsOf (xs.map fun x => PyData.bool (f x))).map (fun bs => Od.sh (.bool (bs.all id))) = _
  rw [this, bools_of]
  simp [List.all_map]
def chainP : List IP → Bool
  | a :: b :: r => leP a b && chainP (b :: r)
  | _ => true
theorem le_pair (p q : IP) : gLe (encP p) (encP q) = some (.sh (.bool (leP p q))) := by
  show some (Od.sh (.bool (if decide (p.1 = q.1) = true then (if decide (p.2 = q.2) = true then decide (2 ≤ 2) else decide (p.2 ≤ q.2)) else decide (p.1 ≤ q.1)))) = _
  congr 3
  unfold leP
  by_cases h1 : p.1 = q.1
  · by_cases h2 : p.2 = q.2 <;> simp [h1, h2]
  · simp only [h1, decide_false, Bool.false_eq_true, if_false, false_and, or_false]
    rw [decide_eq_decide]
    omega
def pairLe (d : PyData) : Bool := match d with
  | .tuple [a, b] => (match gLe a b with
    | some (.sh (.bool k)) => k
    | _ => false)
  | _ => false
theorem chain_zip : ∀ st : List IP, ((zipD (st.map encP) ((st.map encP).drop 1)).all pairLe) = chainP st
  | [] => rfl
  | [a] => rfl
  | a :: b :: r => by
    have ih := chain_zip (b :: r)
    have h1 : zipD ((a :: b :: r).map encP) (((a :: b :: r).map encP).drop 1) = .tuple [encP a, encP b] :: zipD ((b :: r).map encP) (((b :: r).map encP).drop 1) := rfl
    rw [h1, List.all_cons, ih]
    show ((match gLe (encP a) (encP b) with | some (.sh (.bool k)) => k | _ => false) && chainP (b :: r)) = (leP a b && chainP (b :: r))
    rw [le_pair]
theorem zip_mem {st : List IP} {d : PyData} (h : d ∈ zipD (st.map encP) ((st.map encP).drop 1)) : ∃ a b, d = .tuple [encP a, encP b] := by
  unfold zipD at h
  obtain ⟨⟨x, y⟩, h1, rfl⟩ := List.mem_map.mp h
  have h2 := List.of_mem_zip h1
  obtain ⟨a, _, rfl⟩ := List.mem_map.mp h2.1
  obtain ⟨b, _, rfl⟩ := List.mem_map.mp (List.mem_of_mem_drop h2.2)
  exact ⟨a, b, rfl⟩
theorem cut_one (ds : List PyData) : PV.cutD ds (some 1) none = ds.drop 1 := by
  unfold PV.cutD
  rw [show HT.sIx ds.length 0 (some 1) = min 1 ds.length from HT.sIx_nat ds.length 0 1, HT.sIx_none]
  cases ds with
  | nil => rfl
  | cons x r =>
    rw [show min 1 (x :: r).length = 1 by rw [List.length_cons]; omega]
    show List.take ((x :: r).length - 1) r = r
    exact List.take_of_length_le (by simp)
/-- the streets that a thing tells -/
def areB (m : Int) (d : PyData) : Bool := match d with
  | .tuple xs => decide (xs.length ≤ 9) && (xs.all (streetB m) && (zipD xs (xs.drop 1)).all pairLe)
  | _ => false
theorem areB_tup {m : Int} {xs : List PyData} : areB m (.tuple xs) = (decide (xs.length ≤ 9) && (xs.all (streetB m) && (zipD xs (xs.drop 1)).all pairLe)) := rfl
theorem px_street {m : Int} {d : PyData} {e : Ev} {fl : Ev → Rs (List Rv)} (hp : plainD d = true) (h : Ls fl e [.int m, d]) : Px (fFn F_is_street fl) e (.bool (streetB m d)) := px_fn rfl h (is_street_den hp)
theorem are_den {m : Int} {d : PyData} (h : plainD d = true) : F_are_streets.den [.int m, d] = .ret (.bool (areB m d)) [] := by
  have hi : Bt (fNotB (fTru (fIsi "tuple" (fVar 1)))) [.sh (.int m), .sh d, .un, .un] (!isTy "tuple" d) := bt_not (bt_tru (px_isi (by decide) h (px_var rfl)).vl rfl)
  refine ret_den (e := [.sh (.int m), .sh d, .un, .un]) ?_
  show g_are_streets [.sh (.int m), .sh d, .un, .un] = _
  unfold g_are_streets
  have no : isTy "tuple" d = false → areB m d = false := fun hd => by cases d <;> first | rfl | (simp [isTy] at hd)
  cases d with
  | tuple xs =>
    have hl : Px (fBin gGt (fCal gLen (fCons (fVar 1) fNil)) (fC (.int 9))) [.sh (.int m), .sh (.tuple xs), .un, .un] (.bool (decide ((9 : Int) < xs.length))) := px_gt (px_cal (lv_cons (px_var rfl).vl lv_nil) rfl) px_c
    have h1 := bt_or hi (fun _ => bt_tb hl)
    by_cases hz : (9 : Int) < xs.length
    · have e1 : areB m (.tuple xs) = false := by
        rw [areB_tup, decide_eq_false (show ¬ xs.length ≤ 9 by omega), Bool.false_and]
      rw [e1]
      rw [decide_eq_true hz] at h1
      exact sq_rt ((ifs_t h1).trans (ret_px px_c))
    · rw [decide_eq_false hz] at h1
      have hz' : xs.length ≤ 9 := by omega
      refine (sq_nx (ifs_f h1)).trans ?_
      have hc : Fx (fLc false [2] (fSeq false (fVar 1)) (tgN false 2) (fun e => .ok true e) (fFn F_is_street (fCons (fun e => shr false ((fVar 0) e)) (fCons (fun e => shr false ((fVar 2) e)) (fNil))))) [.sh (.int m), .sh (.tuple xs), .un, .un] (xs.map fun x => .bool (streetB m x)) :=
        fx_lcA (fun x => .bool (streetB m x)) (seq_px (px_var rfl) rfl) rfl (.inl rfl) (le_line (by omega)) fun x hx => ⟨[.sh (.int m), .sh (.tuple xs), .sh x, .un], rfl, rfl, shr_sx (px_street (plain_mem h x hx) (ls_px (px_var rfl) (ls_px (px_var rfl) ls_nil)))⟩
      have ha : Px (fCal gAll (fCons (fLc false [2] (fSeq false (fVar 1)) (tgN false 2) (fun e => .ok true e) (fFn F_is_street (fCons (fun e => shr false ((fVar 0) e)) (fCons (fun e => shr false ((fVar 2) e)) (fNil))))) fNil)) [.sh (.int m), .sh (.tuple xs), .un, .un] (.bool (xs.all (streetB m))) := px_cal (lv_cons hc.vl lv_nil) (all_bools _ _)
      have h2 := bt_not (bt_tru ha.vl rfl)
      cases hs : xs.all (streetB m) with
      | false =>
        have e1 : areB m (.tuple xs) = false := by
          rw [areB_tup, hs, Bool.false_and, Bool.and_false]
        rw [e1]
        rw [hs] at h2
        exact sq_rt ((ifs_t h2).trans (ret_px px_c))
      | true =>
        rw [hs] at h2
        refine (sq_nx (ifs_f h2)).trans ?_
        have e1 : areB m (.tuple xs) = (zipD xs (xs.drop 1)).all pairLe := by
          rw [areB_tup, hs, decide_eq_true hz', Bool.true_and, Bool.true_and]
        rw [e1]
        obtain ⟨st, rfl, hst⟩ := streets_enc hs
        have hzip : fZip (fCons (fVar 1) (fCons (fSl (fVar 1) (fPart (fC (.int 1))) fNoP) fNil)) [.sh (.int m), .sh (.tuple (st.map encP)), .un, .un] = .ok (zipD (st.map encP) ((st.map encP).drop 1)) [.sh (.int m), .sh (.tuple (st.map encP)), .un, .un] := by
          have hsl : Px (fSl (fVar 1) (fPart (fC (.int 1))) fNoP) [.sh (.int m), .sh (.tuple (st.map encP)), .un, .un] (.tuple ((st.map encP).drop 1)) := px_sl (px_var rfl).vl (pt_some px_c.vl) pt_no (by show some (Od.sh (.tuple (PV.cutD (st.map encP) (some 1) none))) = _; rw [cut_one])
          exact zip_tup (ls_pxN (px_var rfl) (ls_pxN hsl ls_nil))
        have hz2 : (zipD (st.map encP) ((st.map encP).drop 1)).length ≤ 9 := by
          simp [zipD] at hz' ⊢
          omega
        refine ret_px (px_cal (lv_cons (fx_lcA (fun d => .bool (pairLe d)) hzip rfl (.inl rfl) (le_line (by omega)) fun d hd => ?_).vl lv_nil) (all_bools _ _))
        obtain ⟨a, b, rfl⟩ := zip_mem hd
        refine ⟨[.sh (.int m), .sh (.tuple (st.map encP)), .sh (encP b), .sh (encP a)], rfl, rfl, shr_sx (px_bin (px_var rfl).vl (px_var rfl).vl ?_)⟩
        show gLe (encP a) (encP b) = some (.sh (.bool (match gLe (encP a) (encP b) with | some (.sh (.bool k)) => k | _ => false)))
        rw [le_pair]
  | none => rw [no rfl]; exact sq_rt ((ifs_t (bt_or (q := false) hi fun z => nomatch z)).trans (ret_px px_c))
  | int i => rw [no rfl]; exact sq_rt ((ifs_t (bt_or (q := false) hi fun z => nomatch z)).trans (ret_px px_c))
  | bool k => rw [no rfl]; exact sq_rt ((ifs_t (bt_or (q := false) hi fun z => nomatch z)).trans (ret_px px_c))
  | str x => rw [no rfl]; exact sq_rt ((ifs_t (bt_or (q := false) hi fun z => nomatch z)).trans (ret_px px_c))
  | list x => rw [no rfl]; exact sq_rt ((ifs_t (bt_or (q := false) hi fun z => nomatch z)).trans (ret_px px_c))
  | dict x => rw [no rfl]; exact sq_rt ((ifs_t (bt_or (q := false) hi fun z => nomatch z)).trans (ret_px px_c))
end LW
namespace LW
open PySem PySem.Spec PyProof.Rows L2 PV
/-! ### law k26 -/
theorem try_rt {f : Ev → Fl} {e e1 : Ev} {v : Rv} (h : f e = .rt v e1) : fTry f e = .rt v e1 := by unfold fTry; rw [h]
def threeD : PyData := .tuple [.int 3, .tuple [.tuple [.int 0, .int 1], .tuple [.int 0, .int 2], .tuple [.int 1, .int 2]]]
theorem rings_ok : F__law_rings_right.den [threeD] = .ret (.bool true) [] := by kernel_rfl
theorem shores_ok : F__law_shores_right.den [threeD] = .ret (.bool true) [] := by kernel_rfl
theorem two_ok0 : F__law_two_right.den [.int 0] = .ret (.bool true) [] := by kernel_rfl
theorem two_ok1 : F__law_two_right.den [.int 1] = .ret (.bool true) [] := by kernel_rfl
theorem two_ok {i : Int} (h0 : 0 ≤ i) (h1 : i < 2) : F__law_two_right.den [.int i] = .ret (.bool true) [] := by
  have : i = 0 ∨ i = 1 := by omega
  rcases this with rfl | rfl
  · exact two_ok0
  · exact two_ok1
abbrev EL (sc t k s : Sl) : Ev := [sc, t, k, s]
abbrev signBody : Ev → Fl := (fSq (fAsg false 3 (fun e => shrS false ((fFn2 F__law_draw F__law_pen 2 (fCons (fun e => shr false ((fFn F__law_cell_at (fCons (fun e => shr false ((fVar 0) e)) (fCons (fun e => shr false ((fVar 2) e)) (fNil)))) e)) (fNil))) e))) <|
        fIfS (fOrB (fNotB (fTru (fFn F__law_rings_right (fCons (fun e => shr false ((fVar 1) e)) (fNil))))) (fOrB (fNotB (fTru (fFn F__law_shores_right (fCons (fun e => shr false ((fVar 1) e)) (fNil))))) (fNotB (fTru (fFn F__law_two_right (fCons (fun e => shr false ((fVar 3) e)) (fNil)))))))
        (fRet (fC (.bool false)))
        (Fl.nx))
abbrev lastRet : Ev → Fl := fRet (fAndV (fBin gEqE (fFn F_heights (fCons (fun e => shr false ((fTup (fCons (fun e => shr false ((fC (.int 1)) e)) (fCons (fun e => shr false ((fTup (fNil)) e)) (fNil)))) e)) (fCons (fun e => shr false ((fTup (fNil)) e)) (fCons (fun e => shr false ((fTup (fNil)) e)) (fNil))))) (fTup (fCons (fun e => shr false ((fC (.int 0)) e)) (fNil)))) (fBin gEqE (fFn F_by_shores (fCons (fun e => shr false ((fTup (fCons (fun e => shr false ((fC (.int 1)) e)) (fCons (fun e => shr false ((fTup (fNil)) e)) (fNil)))) e)) (fCons (fun e => shr false ((fTup (fNil)) e)) (fCons (fun e => shr false ((fTup (fNil)) e)) (fNil))))) (fTup (fCons (fun e => shr false ((fC (.str "row")) e)) (fCons (fun e => shr false ((fTup (fNil)) e)) (fNil))))))
abbrev loopFi : Ev → Rs (List PyData) := fRng1 (fCons (fCal gMax (fCons (fC (.int 1)) (fCons (fCal gMin (fCons (fCal gLen (fCons (fVar 0) fNil)) (fCons (fC (.int 3)) fNil))) fNil))) fNil)
theorem g_law_eq : g_law = fSq (fAsg false 1 (fun e => shrS false ((fTup (fCons (fun e => shr false ((fC (.int 3)) e)) (fCons (fun e => shr false ((fTup (fCons (fun e => shr false ((fTup (fCons (fun e => shr false ((fC (.int 0)) e)) (fCons (fun e => shr false ((fC (.int 1)) e)) (fNil)))) e)) (fCons (fun e => shr false ((fTup (fCons (fun e => shr false ((fC (.int 0)) e)) (fCons (fun e => shr false ((fC (.int 2)) e)) (fNil)))) e)) (fCons (fun e => shr false ((fTup (fCons (fun e => shr false ((fC (.int 1)) e)) (fCons (fun e => shr false ((fC (.int 2)) e)) (fNil)))) e)) (fNil))))) e)) (fNil)))) e))) (fTry (fSq (fFor (tgN false 2) loopFi signBody) lastRet)) := rfl
theorem heights_one : F_heights.den [.tuple [.int 1, .tuple []], .tuple [], .tuple []] = .ret (.tuple [.int 0]) [] := by kernel_rfl
theorem shores_one : F_by_shores.den [.tuple [.int 1, .tuple []], .tuple [], .tuple []] = .ret (.tuple [.str "row", .tuple []]) [] := by kernel_rfl
theorem last_ok {sc t k s : Sl} : lastRet (EL sc t k s) = .rt (.sh (.bool true)) (EL sc t k s) := by kernel_rfl
theorem sign_step {ns : List Int} {k : Nat} {s : Sl} : ∃ s', signBody (EL (.sh (scrD ns)) (.sh threeD) (.sh (.int (k : Int))) s) = .nx (EL (.sh (scrD ns)) (.sh threeD) (.sh (.int (k : Int))) s') := by
  obtain ⟨z, hz⟩ := cell_den ns k
  obtain ⟨p, hp, pk⟩ := pen_den z
  obtain ⟨i, p', hd, h0, h1, -⟩ := draw_den (m := 2) pk (by decide) (by decide) (by decide)
  refine ⟨.sh (.int i), ?_⟩
  have hcell : Px (fFn F__law_cell_at (fCons (fun e => shr false ((fVar 0) e)) (fCons (fun e => shr false ((fVar 2) e)) (fNil)))) (EL (.sh (scrD ns)) (.sh threeD) (.sh (.int (k : Int))) s) (.int z) := px_fn rfl (ls_px (px_var rfl) (ls_px (px_var rfl) ls_nil)) hz
  have hl : Ls (fCons (fun e => shr false ((fFn F__law_cell_at (fCons (fun e => shr false ((fVar 0) e)) (fCons (fun e => shr false ((fVar 2) e)) (fNil)))) e)) (fNil)) (EL (.sh (scrD ns)) (.sh threeD) (.sh (.int (k : Int))) s) [.int z] := ls_px hcell ls_nil
  have hs : Px (fFn2 F__law_draw F__law_pen 2 (fCons (fun e => shr false ((fFn F__law_cell_at (fCons (fun e => shr false ((fVar 0) e)) (fCons (fun e => shr false ((fVar 2) e)) (fNil)))) e)) (fNil))) (EL (.sh (scrD ns)) (.sh threeD) (.sh (.int (k : Int))) s) (.int i) := by
    unfold Px fFn2
    rw [hl]
    show (if F__law_draw.io = true ∧ F__law_pen.io = false then (match F__law_pen.den [.int z] with
      | .fresh xs _ => (match F__law_draw.den [.list xs, .int 2] with
        | .ret d _ => (Rs.ok (Rv.sh d) : Ev → Rs Rv) (EL (.sh (scrD ns)) (.sh threeD) (.sh (.int (k : Int))) s)
        | _ => .bad)
      | _ => .bad) else .bad) = _
    rw [if_pos ⟨rfl, rfl⟩, hp]
    simp only
    rw [hd]
  unfold signBody
  refine (sq_nx (e1 := EL (.sh (scrD ns)) (.sh threeD) (.sh (.int (k : Int))) (.sh (.int i))) (nx_of (asg_sh hs rfl (show 3 < 4 by decide)) rfl)).trans ?_
  have a1 := bt_not (p := true) (bt_tru (px_fn rfl (ls_px (io := false) (px_var (i := 1) (e := EL (.sh (scrD ns)) (.sh threeD) (.sh (.int (k : Int))) (.sh (.int i))) rfl) ls_nil) rings_ok : Px _ _ (.bool true)).vl rfl)
  have a2 := bt_not (p := true) (bt_tru (px_fn rfl (ls_px (io := false) (px_var (i := 1) (e := EL (.sh (scrD ns)) (.sh threeD) (.sh (.int (k : Int))) (.sh (.int i))) rfl) ls_nil) shores_ok : Px _ _ (.bool true)).vl rfl)
  have a3 := bt_not (p := true) (bt_tru (px_fn rfl (ls_px (io := false) (px_var (i := 3) (e := EL (.sh (scrD ns)) (.sh threeD) (.sh (.int (k : Int))) (.sh (.int i))) rfl) ls_nil) (two_ok h0 h1) : Px _ _ (.bool true)).vl rfl)
  exact ifs_f (bt_or a1 fun _ => bt_or a2 fun _ => a3)
theorem law_true : ∀ ns : List Int, ns.length ≤ 63 → (∀ z ∈ ns, Builtin.Int.intBits z ≤ 1048576) → F_law.den [scrD ns] = .ret (.bool true) [] := by
  intro ns hn _
  show endF false (g_law (EL (.sh (scrD ns)) .un .un .un)) = _
  rw [g_law_eq]
  have hlen : Px (fCal gLen (fCons (fVar 0) fNil)) (EL (.sh (scrD ns)) (.sh threeD) .un .un) (.int ns.length) := px_cal (lv_cons (px_var rfl).vl lv_nil) (by
    show some (Od.sh (.int ((ns.map PyData.int).length : Int))) = _
    rw [List.length_map])
  obtain ⟨K, hK, hK2⟩ : ∃ K : Int, Px (fCal gMax (fCons (fC (.int 1)) (fCons (fCal gMin (fCons (fCal gLen (fCons (fVar 0) fNil)) (fCons (fC (.int 3)) fNil))) fNil))) (EL (.sh (scrD ns)) (.sh threeD) .un .un) (.int K) ∧ 0 ≤ K ∧ K ≤ 100 := by
    refine ⟨_, px_cal (lv_cons px_c.vl (lv_cons (px_cal (lv_cons hlen.vl (lv_cons (px_c (d := .int 3)).vl lv_nil)) rfl : Px _ _ (.int (if (3 : Int) < ns.length then 3 else ns.length))).vl lv_nil)) rfl, ?_⟩
    split <;> split <;> omega
  obtain ⟨e', l1, t2, t3, rfl⟩ := for_inv (t := tgN false 2) (fi := loopFi) (body := signBody) (DS := rngD 0 K.toNat) (e := EL (.sh (scrD ns)) (.sh threeD) .un .un) (e1 := EL (.sh (scrD ns)) (.sh threeD) .un .un)
    (fun _ e => ∃ t2 t3, e = EL (.sh (scrD ns)) (.sh threeD) t2 t3) (rng1_ok (lv_cons hK.vl lv_nil) (by omega)) ⟨.un, .un, rfl⟩ (by
      rintro done d rest e hq ⟨t2, t3, rfl⟩
      obtain ⟨rfl, hd⟩ := rng_at hq
      obtain ⟨s', hs⟩ := sign_step (ns := ns) (k := done.length) (s := t3)
      rw [Int.zero_add]
      exact ⟨EL (.sh (scrD ns)) (.sh threeD) (.sh (.int (done.length : Int))) t3, _, rfl, .inl hs, _, _, rfl⟩)
  refine (congrArg (endF false) ((sq_nx (e1 := EL (.sh (scrD ns)) (.sh threeD) .un .un) rfl).trans (try_rt ((sq_nx l1).trans last_ok)))).trans ?_
  rfl
end LW
namespace LW
open PySem PySem.Spec PyProof.Rows L2 PV
def kwT : Str → List Str → Option (List Nat) := fun x kn => if x = "by_rings" ∧ kn = (["other", "one", "plan"] : List Str) then some [2, 1, 0] else if x = "shows_by_rings" ∧ kn = (["thing", "other", "one", "plan"] : List Str) then some [3, 2, 1, 0] else if x = "heights" ∧ kn = (["other", "one", "plan"] : List Str) then some [2, 1, 0] else if x = "shows_by_shores" ∧ kn = (["thing", "other", "one", "plan"] : List Str) then some [3, 2, 1, 0] else if x = "by_shores" ∧ kn = (["other", "one", "plan"] : List Str) then some [2, 1, 0] else if x = "lead" ∧ kn = (["walk", "signing", "plan"] : List Str) then some [2, 1, 0] else none
/-! ### the module -/
section
variable {P : Program} {w : World} {K : Fg} {mg : Mg} {base : Heap}
abbrev FsOk (P : Program) (w : World) (K : Fg) (mg : Mg) (base : Heap) (k : Nat) (x : Str) (n : Nat) (b : Bool) (F : Fn) : Prop := F.io = b ∧ ∃ (f : Addr) (fd : FuncData) (ps : List Str), FnG P w K mg base k f fd ps (spFn K mg ps.length F) ∧ ps.length = n ∧ mg x = some (.ref f) ∧ PySem.W.keepIn K (.ref f) = true ∧ Binds K fd ps [] ∧ ∀ kn pm, kwT x kn = some pm → KwB fd ps kn pm
theorem FsOk.mono {j k : Nat} {x : Str} {n : Nat} {b : Bool} {F : Fn} (h : FsOk P w K mg base j x n b F) (hk : j ≤ k) : FsOk P w K mg base k x n b F := let ⟨h0, f, fd, ps, G, r⟩ := h; ⟨h0, f, fd, ps, G.mono hk, r⟩
structure Gd (w : World) (K : Fg) (mg : Mg) (base : Heap) : Prop where
  sm : ∃ o, base.get? sysModules = some o
  ec : ∀ x, ecT x = true → ∃ c, mg x = some (.ref c)
  cs : ∀ x d, csT x = some d → ∃ v u, mg x = some u ∧ RelV v u ∧ ∀ H : Hp, Dn K H v d
  ds : ∀ x T, dsT x = some T → ∃ a es n, KDict K w a es n ∧ mg x = some (.ref a) ∧ ∀ z d, T z = some d → ∃ u0 v0, PySem.W.nsIn K a z = some (some u0) ∧ RelV v0 u0 ∧ ∀ H : Hp, Dn K H v0 d
  fr : ∀ x, frT x = true → mg x = none
/-- where a def stands -/
structure At (K : Fg) (mg : Mg) (x : Str) (st : Stmt) (ps : List Str) (f : Addr) (fd : FuncData) : Prop where
  fu : L2.Fun K x x st f fd
  bi : Binds K fd ps []
  kw : ∀ kn pm, kwT x kn = some pm → KwB fd ps kn pm
  mgx : mg x = some (.ref f)
theorem kw_is_whole (x : Str) (kn : List Str) (pm : List Nat) (h : k_is_whole x kn = some pm) : kwT x kn = some pm := by
  simp only [k_is_whole] at h
  cases h
theorem ok_is_whole {f : Addr} {fd : FuncData} (gd : Gd w K mg base) (a : At K mg "is_whole" s_is_whole p_is_whole f fd)  : FnG P w K mg base 1 f fd p_is_whole (spFn K mg p_is_whole.length F_is_whole) := by
  have M : ModIs P w K mg base 0 C_is_whole := ⟨gd.sm, fun x n b F h => (by
    have h : t_is_whole x = some (n, b, F) := h
    simp only [t_is_whole] at h
    cases h), gd.ec, gd.cs, gd.ds, gd.fr⟩
  exact def_is a.fu S_is_whole M rfl rfl rfl 60 60 F_is_whole rfl (fun ds _ => .inr (by rw [e_is_whole]; rfl))
theorem kw_is_below (x : Str) (kn : List Str) (pm : List Nat) (h : k_is_below x kn = some pm) : kwT x kn = some pm := by
  simp only [k_is_below] at h
  cases h
theorem ok_is_below {f : Addr} {fd : FuncData} (gd : Gd w K mg base) (a : At K mg "is_below" s_is_below p_is_below f fd) (h_is_whole : FsOk P w K mg base 1 "is_whole" 1 false F_is_whole) : FnG P w K mg base 2 f fd p_is_below (spFn K mg p_is_below.length F_is_below) := by
  have M : ModIs P w K mg base 1 C_is_below := ⟨gd.sm, fun x n b F h => (by
    have h : t_is_below x = some (n, b, F) := h
    simp only [t_is_below] at h
    rcases ite_opt h with ⟨rfl, e⟩ | h
    · cases e; obtain ⟨y0, y1, y2, y3, y4, y5, y6, y7, y8, y9⟩ := h_is_whole.mono (k := 1) (by decide); exact ⟨y0, y1, y2, y3, y4, y5, y6, y7, y8, fun kn pm hk => y9 kn pm (kw_is_below _ kn pm hk)⟩
    cases h), gd.ec, gd.cs, gd.ds, gd.fr⟩
  exact def_is a.fu S_is_below M rfl rfl rfl 60 60 F_is_below rfl (fun ds _ => .inr (by rw [e_is_below]; rfl))
theorem kw_is_pair (x : Str) (kn : List Str) (pm : List Nat) (h : k_is_pair x kn = some pm) : kwT x kn = some pm := by
  simp only [k_is_pair] at h
  cases h
theorem ok_is_pair {f : Addr} {fd : FuncData} (gd : Gd w K mg base) (a : At K mg "is_pair" s_is_pair p_is_pair f fd)  : FnG P w K mg base 1 f fd p_is_pair (spFn K mg p_is_pair.length F_is_pair) := by
  have M : ModIs P w K mg base 0 C_is_pair := ⟨gd.sm, fun x n b F h => (by
    have h : t_is_pair x = some (n, b, F) := h
    simp only [t_is_pair] at h
    cases h), gd.ec, gd.cs, gd.ds, gd.fr⟩
  exact def_is a.fu S_is_pair M rfl rfl rfl 60 60 F_is_pair rfl (fun ds _ => .inr (by rw [e_is_pair]; rfl))
theorem kw_is_triple (x : Str) (kn : List Str) (pm : List Nat) (h : k_is_triple x kn = some pm) : kwT x kn = some pm := by
  simp only [k_is_triple] at h
  cases h
theorem ok_is_triple {f : Addr} {fd : FuncData} (gd : Gd w K mg base) (a : At K mg "is_triple" s_is_triple p_is_triple f fd)  : FnG P w K mg base 1 f fd p_is_triple (spFn K mg p_is_triple.length F_is_triple) := by
  have M : ModIs P w K mg base 0 C_is_triple := ⟨gd.sm, fun x n b F h => (by
    have h : t_is_triple x = some (n, b, F) := h
    simp only [t_is_triple] at h
    cases h), gd.ec, gd.cs, gd.ds, gd.fr⟩
  exact def_is a.fu S_is_triple M rfl rfl rfl 60 60 F_is_triple rfl (fun ds _ => .inr (by rw [e_is_triple]; rfl))
theorem kw_is_street (x : Str) (kn : List Str) (pm : List Nat) (h : k_is_street x kn = some pm) : kwT x kn = some pm := by
  simp only [k_is_street] at h
  cases h
theorem ok_is_street {f : Addr} {fd : FuncData} (gd : Gd w K mg base) (a : At K mg "is_street" s_is_street p_is_street f fd) (h_is_pair : FsOk P w K mg base 1 "is_pair" 1 false F_is_pair) (h_is_below : FsOk P w K mg base 2 "is_below" 2 false F_is_below) : FnG P w K mg base 3 f fd p_is_street (spFn K mg p_is_street.length F_is_street) := by
  have M : ModIs P w K mg base 2 C_is_street := ⟨gd.sm, fun x n b F h => (by
    have h : t_is_street x = some (n, b, F) := h
    simp only [t_is_street] at h
    rcases ite_opt h with ⟨rfl, e⟩ | h
    · cases e; obtain ⟨y0, y1, y2, y3, y4, y5, y6, y7, y8, y9⟩ := h_is_pair.mono (k := 2) (by decide); exact ⟨y0, y1, y2, y3, y4, y5, y6, y7, y8, fun kn pm hk => y9 kn pm (kw_is_street _ kn pm hk)⟩
    rcases ite_opt h with ⟨rfl, e⟩ | h
    · cases e; obtain ⟨y0, y1, y2, y3, y4, y5, y6, y7, y8, y9⟩ := h_is_below.mono (k := 2) (by decide); exact ⟨y0, y1, y2, y3, y4, y5, y6, y7, y8, fun kn pm hk => y9 kn pm (kw_is_street _ kn pm hk)⟩
    cases h), gd.ec, gd.cs, gd.ds, gd.fr⟩
  exact def_is a.fu S_is_street M rfl rfl rfl 60 60 F_is_street rfl (fun ds _ => .inr (by rw [e_is_street]; rfl))
theorem kw_are_streets (x : Str) (kn : List Str) (pm : List Nat) (h : k_are_streets x kn = some pm) : kwT x kn = some pm := by
  simp only [k_are_streets] at h
  cases h
theorem ok_are_streets {f : Addr} {fd : FuncData} (gd : Gd w K mg base) (a : At K mg "are_streets" s_are_streets p_are_streets f fd) (h_is_street : FsOk P w K mg base 3 "is_street" 2 false F_is_street) : FnG P w K mg base 4 f fd p_are_streets (spFn K mg p_are_streets.length F_are_streets) := by
  have M : ModIs P w K mg base 3 C_are_streets := ⟨gd.sm, fun x n b F h => (by
    have h : t_are_streets x = some (n, b, F) := h
    simp only [t_are_streets] at h
    rcases ite_opt h with ⟨rfl, e⟩ | h
    · cases e; obtain ⟨y0, y1, y2, y3, y4, y5, y6, y7, y8, y9⟩ := h_is_street.mono (k := 3) (by decide); exact ⟨y0, y1, y2, y3, y4, y5, y6, y7, y8, fun kn pm hk => y9 kn pm (kw_are_streets _ kn pm hk)⟩
    cases h), gd.ec, gd.cs, gd.ds, gd.fr⟩
  exact def_is a.fu S_are_streets M rfl rfl rfl 60 60 F_are_streets rfl (fun ds _ => .inr (by rw [e_are_streets]; rfl))
theorem kw_ways_from (x : Str) (kn : List Str) (pm : List Nat) (h : k_ways_from x kn = some pm) : kwT x kn = some pm := by
  simp only [k_ways_from] at h
  cases h
theorem ok_ways_from {f : Addr} {fd : FuncData} (gd : Gd w K mg base) (a : At K mg "ways_from" s_ways_from p_ways_from f fd)  : FnG P w K mg base 1 f fd p_ways_from (spFn K mg p_ways_from.length F_ways_from) := by
  have M : ModIs P w K mg base 0 C_ways_from := ⟨gd.sm, fun x n b F h => (by
    have h : t_ways_from x = some (n, b, F) := h
    simp only [t_ways_from] at h
    cases h), gd.ec, gd.cs, gd.ds, gd.fr⟩
  exact def_is a.fu S_ways_from M rfl rfl rfl 60 60 F_ways_from rfl (fun ds _ => .inr (by rw [e_ways_from]; rfl))
theorem kw_towns_from (x : Str) (kn : List Str) (pm : List Nat) (h : k_towns_from x kn = some pm) : kwT x kn = some pm := by
  simp only [k_towns_from] at h
  cases h
theorem ok_towns_from {f : Addr} {fd : FuncData} (gd : Gd w K mg base) (a : At K mg "towns_from" s_towns_from p_towns_from f fd) (h_ways_from : FsOk P w K mg base 1 "ways_from" 2 false F_ways_from) : FnG P w K mg base 2 f fd p_towns_from (spFn K mg p_towns_from.length F_towns_from) := by
  have M : ModIs P w K mg base 1 C_towns_from := ⟨gd.sm, fun x n b F h => (by
    have h : t_towns_from x = some (n, b, F) := h
    simp only [t_towns_from] at h
    rcases ite_opt h with ⟨rfl, e⟩ | h
    · cases e; obtain ⟨y0, y1, y2, y3, y4, y5, y6, y7, y8, y9⟩ := h_ways_from.mono (k := 1) (by decide); exact ⟨y0, y1, y2, y3, y4, y5, y6, y7, y8, fun kn pm hk => y9 kn pm (kw_towns_from _ kn pm hk)⟩
    cases h), gd.ec, gd.cs, gd.ds, gd.fr⟩
  exact def_is a.fu S_towns_from M rfl rfl rfl 60 60 F_towns_from rfl (fun ds _ => .inr (by rw [e_towns_from]; rfl))
theorem kw_both_ways (x : Str) (kn : List Str) (pm : List Nat) (h : k_both_ways x kn = some pm) : kwT x kn = some pm := by
  simp only [k_both_ways] at h
  cases h
theorem ok_both_ways {f : Addr} {fd : FuncData} (gd : Gd w K mg base) (a : At K mg "both_ways" s_both_ways p_both_ways f fd)  : FnG P w K mg base 1 f fd p_both_ways (spFn K mg p_both_ways.length F_both_ways) := by
  have M : ModIs P w K mg base 0 C_both_ways := ⟨gd.sm, fun x n b F h => (by
    have h : t_both_ways x = some (n, b, F) := h
    simp only [t_both_ways] at h
    cases h), gd.ec, gd.cs, gd.ds, gd.fr⟩
  exact def_is a.fu S_both_ways M rfl rfl rfl 60 60 F_both_ways rfl (fun ds _ => .inr (by rw [e_both_ways]; rfl))
theorem kw_hang_together (x : Str) (kn : List Str) (pm : List Nat) (h : k_hang_together x kn = some pm) : kwT x kn = some pm := by
  simp only [k_hang_together] at h
  cases h
theorem ok_hang_together {f : Addr} {fd : FuncData} (gd : Gd w K mg base) (a : At K mg "hang_together" s_hang_together p_hang_together f fd) (h_towns_from : FsOk P w K mg base 2 "towns_from" 2 false F_towns_from) (h_both_ways : FsOk P w K mg base 1 "both_ways" 1 false F_both_ways) : FnG P w K mg base 3 f fd p_hang_together (spFn K mg p_hang_together.length F_hang_together) := by
  have M : ModIs P w K mg base 2 C_hang_together := ⟨gd.sm, fun x n b F h => (by
    have h : t_hang_together x = some (n, b, F) := h
    simp only [t_hang_together] at h
    rcases ite_opt h with ⟨rfl, e⟩ | h
    · cases e; obtain ⟨y0, y1, y2, y3, y4, y5, y6, y7, y8, y9⟩ := h_towns_from.mono (k := 2) (by decide); exact ⟨y0, y1, y2, y3, y4, y5, y6, y7, y8, fun kn pm hk => y9 kn pm (kw_hang_together _ kn pm hk)⟩
    rcases ite_opt h with ⟨rfl, e⟩ | h
    · cases e; obtain ⟨y0, y1, y2, y3, y4, y5, y6, y7, y8, y9⟩ := h_both_ways.mono (k := 2) (by decide); exact ⟨y0, y1, y2, y3, y4, y5, y6, y7, y8, fun kn pm hk => y9 kn pm (kw_hang_together _ kn pm hk)⟩
    cases h), gd.ec, gd.cs, gd.ds, gd.fr⟩
  exact def_is a.fu S_hang_together M rfl rfl rfl 60 60 F_hang_together rfl (fun ds _ => .inr (by rw [e_hang_together]; rfl))
theorem kw_is_plan (x : Str) (kn : List Str) (pm : List Nat) (h : k_is_plan x kn = some pm) : kwT x kn = some pm := by
  simp only [k_is_plan] at h
  cases h
theorem ok_is_plan {f : Addr} {fd : FuncData} (gd : Gd w K mg base) (a : At K mg "is_plan" s_is_plan p_is_plan f fd) (h_is_pair : FsOk P w K mg base 1 "is_pair" 1 false F_is_pair) (h_are_streets : FsOk P w K mg base 4 "are_streets" 2 false F_are_streets) (h_hang_together : FsOk P w K mg base 3 "hang_together" 2 false F_hang_together) (h_is_below : FsOk P w K mg base 2 "is_below" 2 false F_is_below) : FnG P w K mg base 5 f fd p_is_plan (spFn K mg p_is_plan.length F_is_plan) := by
  have M : ModIs P w K mg base 4 C_is_plan := ⟨gd.sm, fun x n b F h => (by
    have h : t_is_plan x = some (n, b, F) := h
    simp only [t_is_plan] at h
    rcases ite_opt h with ⟨rfl, e⟩ | h
    · cases e; obtain ⟨y0, y1, y2, y3, y4, y5, y6, y7, y8, y9⟩ := h_is_pair.mono (k := 4) (by decide); exact ⟨y0, y1, y2, y3, y4, y5, y6, y7, y8, fun kn pm hk => y9 kn pm (kw_is_plan _ kn pm hk)⟩
    rcases ite_opt h with ⟨rfl, e⟩ | h
    · cases e; obtain ⟨y0, y1, y2, y3, y4, y5, y6, y7, y8, y9⟩ := h_are_streets.mono (k := 4) (by decide); exact ⟨y0, y1, y2, y3, y4, y5, y6, y7, y8, fun kn pm hk => y9 kn pm (kw_is_plan _ kn pm hk)⟩
    rcases ite_opt h with ⟨rfl, e⟩ | h
    · cases e; obtain ⟨y0, y1, y2, y3, y4, y5, y6, y7, y8, y9⟩ := h_hang_together.mono (k := 4) (by decide); exact ⟨y0, y1, y2, y3, y4, y5, y6, y7, y8, fun kn pm hk => y9 kn pm (kw_is_plan _ kn pm hk)⟩
    rcases ite_opt h with ⟨rfl, e⟩ | h
    · cases e; obtain ⟨y0, y1, y2, y3, y4, y5, y6, y7, y8, y9⟩ := h_is_below.mono (k := 4) (by decide); exact ⟨y0, y1, y2, y3, y4, y5, y6, y7, y8, fun kn pm hk => y9 kn pm (kw_is_plan _ kn pm hk)⟩
    cases h), gd.ec, gd.cs, gd.ds, gd.fr⟩
  exact def_is a.fu S_is_plan M rfl rfl rfl 60 60 F_is_plan rfl (fun ds _ => .inr (by rw [e_is_plan]; rfl))
theorem kw_need_plan (x : Str) (kn : List Str) (pm : List Nat) (h : k_need_plan x kn = some pm) : kwT x kn = some pm := by
  simp only [k_need_plan] at h
  cases h
theorem ok_need_plan {f : Addr} {fd : FuncData} (gd : Gd w K mg base) (a : At K mg "need_plan" s_need_plan p_need_plan f fd) (h_is_plan : FsOk P w K mg base 5 "is_plan" 1 false F_is_plan) : FnG P w K mg base 6 f fd p_need_plan (spFn K mg p_need_plan.length F_need_plan) := by
  have M : ModIs P w K mg base 5 C_need_plan := ⟨gd.sm, fun x n b F h => (by
    have h : t_need_plan x = some (n, b, F) := h
    simp only [t_need_plan] at h
    rcases ite_opt h with ⟨rfl, e⟩ | h
    · cases e; obtain ⟨y0, y1, y2, y3, y4, y5, y6, y7, y8, y9⟩ := h_is_plan.mono (k := 5) (by decide); exact ⟨y0, y1, y2, y3, y4, y5, y6, y7, y8, fun kn pm hk => y9 kn pm (kw_need_plan _ kn pm hk)⟩
    cases h), gd.ec, gd.cs, gd.ds, gd.fr⟩
  exact def_is a.fu S_need_plan M rfl rfl rfl 60 60 F_need_plan rfl (fun ds _ => .inr (by rw [e_need_plan]; rfl))
theorem kw_is_signing (x : Str) (kn : List Str) (pm : List Nat) (h : k_is_signing x kn = some pm) : kwT x kn = some pm := by
  simp only [k_is_signing] at h
  cases h
theorem ok_is_signing {f : Addr} {fd : FuncData} (gd : Gd w K mg base) (a : At K mg "is_signing" s_is_signing p_is_signing f fd) (h_need_plan : FsOk P w K mg base 6 "need_plan" 1 false F_need_plan) (h_is_below : FsOk P w K mg base 2 "is_below" 2 false F_is_below) : FnG P w K mg base 7 f fd p_is_signing (spFn K mg p_is_signing.length F_is_signing) := by
  have M : ModIs P w K mg base 6 C_is_signing := ⟨gd.sm, fun x n b F h => (by
    have h : t_is_signing x = some (n, b, F) := h
    simp only [t_is_signing] at h
    rcases ite_opt h with ⟨rfl, e⟩ | h
    · cases e; obtain ⟨y0, y1, y2, y3, y4, y5, y6, y7, y8, y9⟩ := h_need_plan.mono (k := 6) (by decide); exact ⟨y0, y1, y2, y3, y4, y5, y6, y7, y8, fun kn pm hk => y9 kn pm (kw_is_signing _ kn pm hk)⟩
    rcases ite_opt h with ⟨rfl, e⟩ | h
    · cases e; obtain ⟨y0, y1, y2, y3, y4, y5, y6, y7, y8, y9⟩ := h_is_below.mono (k := 6) (by decide); exact ⟨y0, y1, y2, y3, y4, y5, y6, y7, y8, fun kn pm hk => y9 kn pm (kw_is_signing _ kn pm hk)⟩
    cases h), gd.ec, gd.cs, gd.ds, gd.fr⟩
  exact def_is a.fu S_is_signing M rfl rfl rfl 60 60 F_is_signing rfl (fun ds _ => .inr (by rw [e_is_signing]; rfl))
theorem kw_need_signing (x : Str) (kn : List Str) (pm : List Nat) (h : k_need_signing x kn = some pm) : kwT x kn = some pm := by
  simp only [k_need_signing] at h
  cases h
theorem ok_need_signing {f : Addr} {fd : FuncData} (gd : Gd w K mg base) (a : At K mg "need_signing" s_need_signing p_need_signing f fd) (h_is_signing : FsOk P w K mg base 7 "is_signing" 2 false F_is_signing) : FnG P w K mg base 8 f fd p_need_signing (spFn K mg p_need_signing.length F_need_signing) := by
  have M : ModIs P w K mg base 7 C_need_signing := ⟨gd.sm, fun x n b F h => (by
    have h : t_need_signing x = some (n, b, F) := h
    simp only [t_need_signing] at h
    rcases ite_opt h with ⟨rfl, e⟩ | h
    · cases e; obtain ⟨y0, y1, y2, y3, y4, y5, y6, y7, y8, y9⟩ := h_is_signing.mono (k := 7) (by decide); exact ⟨y0, y1, y2, y3, y4, y5, y6, y7, y8, fun kn pm hk => y9 kn pm (kw_need_signing _ kn pm hk)⟩
    cases h), gd.ec, gd.cs, gd.ds, gd.fr⟩
  exact def_is a.fu S_need_signing M rfl rfl rfl 60 60 F_need_signing rfl (fun ds _ => .inr (by rw [e_need_signing]; rfl))
theorem kw_need_signings (x : Str) (kn : List Str) (pm : List Nat) (h : k_need_signings x kn = some pm) : kwT x kn = some pm := by
  simp only [k_need_signings] at h
  cases h
theorem ok_need_signings {f : Addr} {fd : FuncData} (gd : Gd w K mg base) (a : At K mg "need_signings" s_need_signings p_need_signings f fd) (h_need_signing : FsOk P w K mg base 8 "need_signing" 2 false F_need_signing) : FnG P w K mg base 9 f fd p_need_signings (spFn K mg p_need_signings.length F_need_signings) := by
  have M : ModIs P w K mg base 8 C_need_signings := ⟨gd.sm, fun x n b F h => (by
    have h : t_need_signings x = some (n, b, F) := h
    simp only [t_need_signings] at h
    rcases ite_opt h with ⟨rfl, e⟩ | h
    · cases e; obtain ⟨y0, y1, y2, y3, y4, y5, y6, y7, y8, y9⟩ := h_need_signing.mono (k := 8) (by decide); exact ⟨y0, y1, y2, y3, y4, y5, y6, y7, y8, fun kn pm hk => y9 kn pm (kw_need_signings _ kn pm hk)⟩
    cases h), gd.ec, gd.cs, gd.ds, gd.fr⟩
  exact def_is a.fu S_need_signings M rfl rfl rfl 60 60 F_need_signings rfl (fun ds _ => .inr (by rw [e_need_signings]; rfl))
theorem kw_paths_of (x : Str) (kn : List Str) (pm : List Nat) (h : k_paths_of x kn = some pm) : kwT x kn = some pm := by
  simp only [k_paths_of] at h
  cases h
theorem ok_paths_of {f : Addr} {fd : FuncData} (gd : Gd w K mg base) (a : At K mg "paths_of" s_paths_of p_paths_of f fd)  : FnG P w K mg base 1 f fd p_paths_of (spFn K mg p_paths_of.length F_paths_of) := by
  have M : ModIs P w K mg base 0 C_paths_of := ⟨gd.sm, fun x n b F h => (by
    have h : t_paths_of x = some (n, b, F) := h
    simp only [t_paths_of] at h
    cases h), gd.ec, gd.cs, gd.ds, gd.fr⟩
  exact def_is a.fu S_paths_of M rfl rfl rfl 60 60 F_paths_of rfl (fun ds _ => .inr (by rw [e_paths_of]; rfl))
theorem kw_outs_of (x : Str) (kn : List Str) (pm : List Nat) (h : k_outs_of x kn = some pm) : kwT x kn = some pm := by
  simp only [k_outs_of] at h
  cases h
theorem ok_outs_of {f : Addr} {fd : FuncData} (gd : Gd w K mg base) (a : At K mg "outs_of" s_outs_of p_outs_of f fd) (h_paths_of : FsOk P w K mg base 1 "paths_of" 2 false F_paths_of) : FnG P w K mg base 2 f fd p_outs_of (spFn K mg p_outs_of.length F_outs_of) := by
  have M : ModIs P w K mg base 1 C_outs_of := ⟨gd.sm, fun x n b F h => (by
    have h : t_outs_of x = some (n, b, F) := h
    simp only [t_outs_of] at h
    rcases ite_opt h with ⟨rfl, e⟩ | h
    · cases e; obtain ⟨y0, y1, y2, y3, y4, y5, y6, y7, y8, y9⟩ := h_paths_of.mono (k := 1) (by decide); exact ⟨y0, y1, y2, y3, y4, y5, y6, y7, y8, fun kn pm hk => y9 kn pm (kw_outs_of _ kn pm hk)⟩
    cases h), gd.ec, gd.cs, gd.ds, gd.fr⟩
  exact def_is a.fu S_outs_of M rfl rfl rfl 60 60 F_outs_of rfl (fun ds _ => .inr (by rw [e_outs_of]; rfl))
theorem kw_outs (x : Str) (kn : List Str) (pm : List Nat) (h : k_outs x kn = some pm) : kwT x kn = some pm := by
  simp only [k_outs] at h
  cases h
theorem ok_outs {f : Addr} {fd : FuncData} (gd : Gd w K mg base) (a : At K mg "outs" s_outs p_outs f fd) (h_need_signing : FsOk P w K mg base 8 "need_signing" 2 false F_need_signing) (h_outs_of : FsOk P w K mg base 2 "outs_of" 2 false F_outs_of) : FnG P w K mg base 9 f fd p_outs (spFn K mg p_outs.length F_outs) := by
  have M : ModIs P w K mg base 8 C_outs := ⟨gd.sm, fun x n b F h => (by
    have h : t_outs x = some (n, b, F) := h
    simp only [t_outs] at h
    rcases ite_opt h with ⟨rfl, e⟩ | h
    · cases e; obtain ⟨y0, y1, y2, y3, y4, y5, y6, y7, y8, y9⟩ := h_need_signing.mono (k := 8) (by decide); exact ⟨y0, y1, y2, y3, y4, y5, y6, y7, y8, fun kn pm hk => y9 kn pm (kw_outs _ kn pm hk)⟩
    rcases ite_opt h with ⟨rfl, e⟩ | h
    · cases e; obtain ⟨y0, y1, y2, y3, y4, y5, y6, y7, y8, y9⟩ := h_outs_of.mono (k := 8) (by decide); exact ⟨y0, y1, y2, y3, y4, y5, y6, y7, y8, fun kn pm hk => y9 kn pm (kw_outs _ kn pm hk)⟩
    cases h), gd.ec, gd.cs, gd.ds, gd.fr⟩
  exact def_is a.fu S_outs M rfl rfl rfl 60 60 F_outs rfl (fun ds _ => .inr (by rw [e_outs]; rfl))
theorem kw_is_rising (x : Str) (kn : List Str) (pm : List Nat) (h : k_is_rising x kn = some pm) : kwT x kn = some pm := by
  simp only [k_is_rising] at h
  cases h
theorem ok_is_rising {f : Addr} {fd : FuncData} (gd : Gd w K mg base) (a : At K mg "is_rising" s_is_rising p_is_rising f fd) (h_is_below : FsOk P w K mg base 2 "is_below" 2 false F_is_below) : FnG P w K mg base 3 f fd p_is_rising (spFn K mg p_is_rising.length F_is_rising) := by
  have M : ModIs P w K mg base 2 C_is_rising := ⟨gd.sm, fun x n b F h => (by
    have h : t_is_rising x = some (n, b, F) := h
    simp only [t_is_rising] at h
    rcases ite_opt h with ⟨rfl, e⟩ | h
    · cases e; obtain ⟨y0, y1, y2, y3, y4, y5, y6, y7, y8, y9⟩ := h_is_below.mono (k := 2) (by decide); exact ⟨y0, y1, y2, y3, y4, y5, y6, y7, y8, fun kn pm hk => y9 kn pm (kw_is_rising _ kn pm hk)⟩
    cases h), gd.ec, gd.cs, gd.ds, gd.fr⟩
  exact def_is a.fu S_is_rising M rfl rfl rfl 60 60 F_is_rising rfl (fun ds _ => .inr (by rw [e_is_rising]; rfl))
theorem kw_lead_round (x : Str) (kn : List Str) (pm : List Nat) (h : k_lead_round x kn = some pm) : kwT x kn = some pm := by
  simp only [k_lead_round] at h
  cases h
theorem ok_lead_round {f : Addr} {fd : FuncData} (gd : Gd w K mg base) (a : At K mg "lead_round" s_lead_round p_lead_round f fd)  : FnG P w K mg base 1 f fd p_lead_round (spFn K mg p_lead_round.length F_lead_round) := by
  have M : ModIs P w K mg base 0 C_lead_round := ⟨gd.sm, fun x n b F h => (by
    have h : t_lead_round x = some (n, b, F) := h
    simp only [t_lead_round] at h
    cases h), gd.ec, gd.cs, gd.ds, gd.fr⟩
  exact def_is a.fu S_lead_round M rfl rfl rfl 60 60 F_lead_round rfl (fun ds _ => .inr (by rw [e_lead_round]; rfl))
theorem kw_is_ring (x : Str) (kn : List Str) (pm : List Nat) (h : k_is_ring x kn = some pm) : kwT x kn = some pm := by
  simp only [k_is_ring] at h
  cases h
theorem ok_is_ring {f : Addr} {fd : FuncData} (gd : Gd w K mg base) (a : At K mg "is_ring" s_is_ring p_is_ring f fd) (h_paths_of : FsOk P w K mg base 1 "paths_of" 2 false F_paths_of) (h_lead_round : FsOk P w K mg base 1 "lead_round" 1 false F_lead_round) (h_is_rising : FsOk P w K mg base 3 "is_rising" 2 false F_is_rising) : FnG P w K mg base 4 f fd p_is_ring (spFn K mg p_is_ring.length F_is_ring) := by
  have M : ModIs P w K mg base 3 C_is_ring := ⟨gd.sm, fun x n b F h => (by
    have h : t_is_ring x = some (n, b, F) := h
    simp only [t_is_ring] at h
    rcases ite_opt h with ⟨rfl, e⟩ | h
    · cases e; obtain ⟨y0, y1, y2, y3, y4, y5, y6, y7, y8, y9⟩ := h_paths_of.mono (k := 3) (by decide); exact ⟨y0, y1, y2, y3, y4, y5, y6, y7, y8, fun kn pm hk => y9 kn pm (kw_is_ring _ kn pm hk)⟩
    rcases ite_opt h with ⟨rfl, e⟩ | h
    · cases e; obtain ⟨y0, y1, y2, y3, y4, y5, y6, y7, y8, y9⟩ := h_lead_round.mono (k := 3) (by decide); exact ⟨y0, y1, y2, y3, y4, y5, y6, y7, y8, fun kn pm hk => y9 kn pm (kw_is_ring _ kn pm hk)⟩
    rcases ite_opt h with ⟨rfl, e⟩ | h
    · cases e; obtain ⟨y0, y1, y2, y3, y4, y5, y6, y7, y8, y9⟩ := h_is_rising.mono (k := 3) (by decide); exact ⟨y0, y1, y2, y3, y4, y5, y6, y7, y8, fun kn pm hk => y9 kn pm (kw_is_ring _ kn pm hk)⟩
    cases h), gd.ec, gd.cs, gd.ds, gd.fr⟩
  exact def_is a.fu S_is_ring M rfl rfl rfl 60 60 F_is_ring rfl (fun ds _ => .inr (by rw [e_is_ring]; rfl))
theorem kw_lead_out (x : Str) (kn : List Str) (pm : List Nat) (h : k_lead_out x kn = some pm) : kwT x kn = some pm := by
  simp only [k_lead_out] at h
  cases h
theorem ok_lead_out {f : Addr} {fd : FuncData} (gd : Gd w K mg base) (a : At K mg "lead_out" s_lead_out p_lead_out f fd)  : FnG P w K mg base 1 f fd p_lead_out (spFn K mg p_lead_out.length F_lead_out) := by
  have M : ModIs P w K mg base 0 C_lead_out := ⟨gd.sm, fun x n b F h => (by
    have h : t_lead_out x = some (n, b, F) := h
    simp only [t_lead_out] at h
    cases h), gd.ec, gd.cs, gd.ds, gd.fr⟩
  exact def_is a.fu S_lead_out M rfl rfl rfl 60 60 F_lead_out rfl (fun ds _ => .inr (by rw [e_lead_out]; rfl))
theorem kw_is_part (x : Str) (kn : List Str) (pm : List Nat) (h : k_is_part x kn = some pm) : kwT x kn = some pm := by
  simp only [k_is_part] at h
  cases h
theorem ok_is_part {f : Addr} {fd : FuncData} (gd : Gd w K mg base) (a : At K mg "is_part" s_is_part p_is_part f fd) (h_is_rising : FsOk P w K mg base 3 "is_rising" 2 false F_is_rising) : FnG P w K mg base 4 f fd p_is_part (spFn K mg p_is_part.length F_is_part) := by
  have M : ModIs P w K mg base 3 C_is_part := ⟨gd.sm, fun x n b F h => (by
    have h : t_is_part x = some (n, b, F) := h
    simp only [t_is_part] at h
    rcases ite_opt h with ⟨rfl, e⟩ | h
    · cases e; obtain ⟨y0, y1, y2, y3, y4, y5, y6, y7, y8, y9⟩ := h_is_rising.mono (k := 3) (by decide); exact ⟨y0, y1, y2, y3, y4, y5, y6, y7, y8, fun kn pm hk => y9 kn pm (kw_is_part _ kn pm hk)⟩
    cases h), gd.ec, gd.cs, gd.ds, gd.fr⟩
  exact def_is a.fu S_is_part M rfl rfl rfl 60 60 F_is_part rfl (fun ds _ => .inr (by rw [e_is_part]; rfl))
theorem kw_is_shore (x : Str) (kn : List Str) (pm : List Nat) (h : k_is_shore x kn = some pm) : kwT x kn = some pm := by
  simp only [k_is_shore] at h
  cases h
theorem ok_is_shore {f : Addr} {fd : FuncData} (gd : Gd w K mg base) (a : At K mg "is_shore" s_is_shore p_is_shore f fd) (h_is_part : FsOk P w K mg base 4 "is_part" 2 false F_is_part) (h_lead_out : FsOk P w K mg base 1 "lead_out" 2 false F_lead_out) (h_paths_of : FsOk P w K mg base 1 "paths_of" 2 false F_paths_of) : FnG P w K mg base 5 f fd p_is_shore (spFn K mg p_is_shore.length F_is_shore) := by
  have M : ModIs P w K mg base 4 C_is_shore := ⟨gd.sm, fun x n b F h => (by
    have h : t_is_shore x = some (n, b, F) := h
    simp only [t_is_shore] at h
    rcases ite_opt h with ⟨rfl, e⟩ | h
    · cases e; obtain ⟨y0, y1, y2, y3, y4, y5, y6, y7, y8, y9⟩ := h_is_part.mono (k := 4) (by decide); exact ⟨y0, y1, y2, y3, y4, y5, y6, y7, y8, fun kn pm hk => y9 kn pm (kw_is_shore _ kn pm hk)⟩
    rcases ite_opt h with ⟨rfl, e⟩ | h
    · cases e; obtain ⟨y0, y1, y2, y3, y4, y5, y6, y7, y8, y9⟩ := h_lead_out.mono (k := 4) (by decide); exact ⟨y0, y1, y2, y3, y4, y5, y6, y7, y8, fun kn pm hk => y9 kn pm (kw_is_shore _ kn pm hk)⟩
    rcases ite_opt h with ⟨rfl, e⟩ | h
    · cases e; obtain ⟨y0, y1, y2, y3, y4, y5, y6, y7, y8, y9⟩ := h_paths_of.mono (k := 4) (by decide); exact ⟨y0, y1, y2, y3, y4, y5, y6, y7, y8, fun kn pm hk => y9 kn pm (kw_is_shore _ kn pm hk)⟩
    cases h), gd.ec, gd.cs, gd.ds, gd.fr⟩
  exact def_is a.fu S_is_shore M rfl rfl rfl 60 60 F_is_shore rfl (fun ds _ => .inr (by rw [e_is_shore]; rfl))
theorem kw_is_turn (x : Str) (kn : List Str) (pm : List Nat) (h : k_is_turn x kn = some pm) : kwT x kn = some pm := by
  simp only [k_is_turn] at h
  cases h
theorem ok_is_turn {f : Addr} {fd : FuncData} (gd : Gd w K mg base) (a : At K mg "is_turn" s_is_turn p_is_turn f fd) (h_is_pair : FsOk P w K mg base 1 "is_pair" 1 false F_is_pair) (h_is_ring : FsOk P w K mg base 4 "is_ring" 3 false F_is_ring) (h_is_shore : FsOk P w K mg base 5 "is_shore" 3 false F_is_shore) : FnG P w K mg base 6 f fd p_is_turn (spFn K mg p_is_turn.length F_is_turn) := by
  have M : ModIs P w K mg base 5 C_is_turn := ⟨gd.sm, fun x n b F h => (by
    have h : t_is_turn x = some (n, b, F) := h
    simp only [t_is_turn] at h
    rcases ite_opt h with ⟨rfl, e⟩ | h
    · cases e; obtain ⟨y0, y1, y2, y3, y4, y5, y6, y7, y8, y9⟩ := h_is_pair.mono (k := 5) (by decide); exact ⟨y0, y1, y2, y3, y4, y5, y6, y7, y8, fun kn pm hk => y9 kn pm (kw_is_turn _ kn pm hk)⟩
    rcases ite_opt h with ⟨rfl, e⟩ | h
    · cases e; obtain ⟨y0, y1, y2, y3, y4, y5, y6, y7, y8, y9⟩ := h_is_ring.mono (k := 5) (by decide); exact ⟨y0, y1, y2, y3, y4, y5, y6, y7, y8, fun kn pm hk => y9 kn pm (kw_is_turn _ kn pm hk)⟩
    rcases ite_opt h with ⟨rfl, e⟩ | h
    · cases e; obtain ⟨y0, y1, y2, y3, y4, y5, y6, y7, y8, y9⟩ := h_is_shore.mono (k := 5) (by decide); exact ⟨y0, y1, y2, y3, y4, y5, y6, y7, y8, fun kn pm hk => y9 kn pm (kw_is_turn _ kn pm hk)⟩
    cases h), gd.ec, gd.cs, gd.ds, gd.fr⟩
  exact def_is a.fu S_is_turn M rfl rfl rfl 60 60 F_is_turn rfl (fun ds _ => .inr (by rw [e_is_turn]; rfl))
theorem kw_is_led_otherwise (x : Str) (kn : List Str) (pm : List Nat) (h : k_is_led_otherwise x kn = some pm) : kwT x kn = some pm := by
  simp only [k_is_led_otherwise] at h
  cases h
theorem ok_is_led_otherwise {f : Addr} {fd : FuncData} (gd : Gd w K mg base) (a : At K mg "is_led_otherwise" s_is_led_otherwise p_is_led_otherwise f fd)  : FnG P w K mg base 1 f fd p_is_led_otherwise (spFn K mg p_is_led_otherwise.length F_is_led_otherwise) := by
  have M : ModIs P w K mg base 0 C_is_led_otherwise := ⟨gd.sm, fun x n b F h => (by
    have h : t_is_led_otherwise x = some (n, b, F) := h
    simp only [t_is_led_otherwise] at h
    cases h), gd.ec, gd.cs, gd.ds, gd.fr⟩
  exact def_is a.fu S_is_led_otherwise M rfl rfl rfl 60 60 F_is_led_otherwise rfl (fun ds _ => .inr (by rw [e_is_led_otherwise]; rfl))
theorem kw_signing_behind_turn (x : Str) (kn : List Str) (pm : List Nat) (h : k_signing_behind_turn x kn = some pm) : kwT x kn = some pm := by
  simp only [k_signing_behind_turn] at h
  cases h
theorem ok_signing_behind_turn {f : Addr} {fd : FuncData} (gd : Gd w K mg base) (a : At K mg "signing_behind_turn" s_signing_behind_turn p_signing_behind_turn f fd) (h_is_led_otherwise : FsOk P w K mg base 1 "is_led_otherwise" 3 false F_is_led_otherwise) : FnG P w K mg base 2 f fd p_signing_behind_turn (spFn K mg p_signing_behind_turn.length F_signing_behind_turn) := by
  have M : ModIs P w K mg base 1 C_signing_behind_turn := ⟨gd.sm, fun x n b F h => (by
    have h : t_signing_behind_turn x = some (n, b, F) := h
    simp only [t_signing_behind_turn] at h
    rcases ite_opt h with ⟨rfl, e⟩ | h
    · cases e; obtain ⟨y0, y1, y2, y3, y4, y5, y6, y7, y8, y9⟩ := h_is_led_otherwise.mono (k := 1) (by decide); exact ⟨y0, y1, y2, y3, y4, y5, y6, y7, y8, fun kn pm hk => y9 kn pm (kw_signing_behind_turn _ kn pm hk)⟩
    cases h), gd.ec, gd.cs, gd.ds, gd.fr⟩
  exact def_is a.fu S_signing_behind_turn M rfl rfl rfl 60 60 F_signing_behind_turn rfl (fun ds _ => .inr (by rw [e_signing_behind_turn]; rfl))
theorem kw_signing_behind_row (x : Str) (kn : List Str) (pm : List Nat) (h : k_signing_behind_row x kn = some pm) : kwT x kn = some pm := by
  simp only [k_signing_behind_row] at h
  cases h
theorem ok_signing_behind_row {f : Addr} {fd : FuncData} (gd : Gd w K mg base) (a : At K mg "signing_behind_row" s_signing_behind_row p_signing_behind_row f fd) (h_signing_behind_turn : FsOk P w K mg base 2 "signing_behind_turn" 3 false F_signing_behind_turn) (h_is_turn : FsOk P w K mg base 6 "is_turn" 3 false F_is_turn) : FnG P w K mg base 7 f fd p_signing_behind_row (spFn K mg p_signing_behind_row.length F_signing_behind_row) := by
  have M : ModIs P w K mg base 6 C_signing_behind_row := ⟨gd.sm, fun x n b F h => (by
    have h : t_signing_behind_row x = some (n, b, F) := h
    simp only [t_signing_behind_row] at h
    rcases ite_opt h with ⟨rfl, e⟩ | h
    · cases e; obtain ⟨y0, y1, y2, y3, y4, y5, y6, y7, y8, y9⟩ := h_signing_behind_turn.mono (k := 6) (by decide); exact ⟨y0, y1, y2, y3, y4, y5, y6, y7, y8, fun kn pm hk => y9 kn pm (kw_signing_behind_row _ kn pm hk)⟩
    rcases ite_opt h with ⟨rfl, e⟩ | h
    · cases e; obtain ⟨y0, y1, y2, y3, y4, y5, y6, y7, y8, y9⟩ := h_is_turn.mono (k := 6) (by decide); exact ⟨y0, y1, y2, y3, y4, y5, y6, y7, y8, fun kn pm hk => y9 kn pm (kw_signing_behind_row _ kn pm hk)⟩
    cases h), gd.ec, gd.cs, gd.ds, gd.fr⟩
  exact def_is a.fu S_signing_behind_row M rfl rfl rfl 60 60 F_signing_behind_row rfl (fun ds _ => .inr (by rw [e_signing_behind_row]; rfl))
theorem kw_leads_there (x : Str) (kn : List Str) (pm : List Nat) (h : k_leads_there x kn = some pm) : kwT x kn = some pm := by
  simp only [k_leads_there] at h
  cases h
theorem ok_leads_there {f : Addr} {fd : FuncData} (gd : Gd w K mg base) (a : At K mg "leads_there" s_leads_there p_leads_there f fd) (h_signing_behind_row : FsOk P w K mg base 7 "signing_behind_row" 3 false F_signing_behind_row) : FnG P w K mg base 8 f fd p_leads_there (spFn K mg p_leads_there.length F_leads_there) := by
  have M : ModIs P w K mg base 7 C_leads_there := ⟨gd.sm, fun x n b F h => (by
    have h : t_leads_there x = some (n, b, F) := h
    simp only [t_leads_there] at h
    rcases ite_opt h with ⟨rfl, e⟩ | h
    · cases e; obtain ⟨y0, y1, y2, y3, y4, y5, y6, y7, y8, y9⟩ := h_signing_behind_row.mono (k := 7) (by decide); exact ⟨y0, y1, y2, y3, y4, y5, y6, y7, y8, fun kn pm hk => y9 kn pm (kw_leads_there _ kn pm hk)⟩
    cases h), gd.ec, gd.cs, gd.ds, gd.fr⟩
  exact def_is a.fu S_leads_there M rfl rfl rfl 60 60 F_leads_there rfl (fun ds _ => .inr (by rw [e_leads_there]; rfl))
theorem kw_steps_from (x : Str) (kn : List Str) (pm : List Nat) (h : k_steps_from x kn = some pm) : kwT x kn = some pm := by
  simp only [k_steps_from] at h
  cases h
theorem ok_steps_from {f : Addr} {fd : FuncData} (gd : Gd w K mg base) (a : At K mg "steps_from" s_steps_from p_steps_from f fd) (h_is_below : FsOk P w K mg base 2 "is_below" 2 false F_is_below) : FnG P w K mg base 3 f fd p_steps_from (spFn K mg p_steps_from.length F_steps_from) := by
  have M : ModIs P w K mg base 2 C_steps_from := ⟨gd.sm, fun x n b F h => (by
    have h : t_steps_from x = some (n, b, F) := h
    simp only [t_steps_from] at h
    rcases ite_opt h with ⟨rfl, e⟩ | h
    · cases e; obtain ⟨y0, y1, y2, y3, y4, y5, y6, y7, y8, y9⟩ := h_is_below.mono (k := 2) (by decide); exact ⟨y0, y1, y2, y3, y4, y5, y6, y7, y8, fun kn pm hk => y9 kn pm (kw_steps_from _ kn pm hk)⟩
    cases h), gd.ec, gd.cs, gd.ds, gd.fr⟩
  exact def_is a.fu S_steps_from M rfl rfl rfl 60 60 F_steps_from rfl (fun ds _ => .inr (by rw [e_steps_from]; rfl))
theorem kw_steps_of (x : Str) (kn : List Str) (pm : List Nat) (h : k_steps_of x kn = some pm) : kwT x kn = some pm := by
  simp only [k_steps_of] at h
  cases h
theorem ok_steps_of {f : Addr} {fd : FuncData} (gd : Gd w K mg base) (a : At K mg "steps_of" s_steps_of p_steps_of f fd) (h_steps_from : FsOk P w K mg base 3 "steps_from" 3 false F_steps_from) (h_is_pair : FsOk P w K mg base 1 "is_pair" 1 false F_is_pair) (h_is_below : FsOk P w K mg base 2 "is_below" 2 false F_is_below) : FnG P w K mg base 4 f fd p_steps_of (spFn K mg p_steps_of.length F_steps_of) := by
  have M : ModIs P w K mg base 3 C_steps_of := ⟨gd.sm, fun x n b F h => (by
    have h : t_steps_of x = some (n, b, F) := h
    simp only [t_steps_of] at h
    rcases ite_opt h with ⟨rfl, e⟩ | h
    · cases e; obtain ⟨y0, y1, y2, y3, y4, y5, y6, y7, y8, y9⟩ := h_steps_from.mono (k := 3) (by decide); exact ⟨y0, y1, y2, y3, y4, y5, y6, y7, y8, fun kn pm hk => y9 kn pm (kw_steps_of _ kn pm hk)⟩
    rcases ite_opt h with ⟨rfl, e⟩ | h
    · cases e; obtain ⟨y0, y1, y2, y3, y4, y5, y6, y7, y8, y9⟩ := h_is_pair.mono (k := 3) (by decide); exact ⟨y0, y1, y2, y3, y4, y5, y6, y7, y8, fun kn pm hk => y9 kn pm (kw_steps_of _ kn pm hk)⟩
    rcases ite_opt h with ⟨rfl, e⟩ | h
    · cases e; obtain ⟨y0, y1, y2, y3, y4, y5, y6, y7, y8, y9⟩ := h_is_below.mono (k := 3) (by decide); exact ⟨y0, y1, y2, y3, y4, y5, y6, y7, y8, fun kn pm hk => y9 kn pm (kw_steps_of _ kn pm hk)⟩
    cases h), gd.ec, gd.cs, gd.ds, gd.fr⟩
  exact def_is a.fu S_steps_of M rfl rfl rfl 60 60 F_steps_of rfl (fun ds _ => .inr (by rw [e_steps_of]; rfl))
theorem kw_lead_of (x : Str) (kn : List Str) (pm : List Nat) (h : k_lead_of x kn = some pm) : kwT x kn = some pm := by
  simp only [k_lead_of] at h
  cases h
theorem ok_lead_of {f : Addr} {fd : FuncData} (gd : Gd w K mg base) (a : At K mg "lead_of" s_lead_of p_lead_of f fd)  : FnG P w K mg base 1 f fd p_lead_of (spFn K mg p_lead_of.length F_lead_of) := by
  have M : ModIs P w K mg base 0 C_lead_of := ⟨gd.sm, fun x n b F h => (by
    have h : t_lead_of x = some (n, b, F) := h
    simp only [t_lead_of] at h
    cases h), gd.ec, gd.cs, gd.ds, gd.fr⟩
  exact def_is a.fu S_lead_of M rfl rfl rfl 60 60 F_lead_of rfl (fun ds _ => .inr (by rw [e_lead_of]; rfl))
theorem kw_lead (x : Str) (kn : List Str) (pm : List Nat) (h : k_lead x kn = some pm) : kwT x kn = some pm := by
  simp only [k_lead] at h
  cases h
theorem ok_lead {f : Addr} {fd : FuncData} (gd : Gd w K mg base) (a : At K mg "lead" s_lead p_lead f fd) (h_need_signing : FsOk P w K mg base 8 "need_signing" 2 false F_need_signing) (h_steps_of : FsOk P w K mg base 4 "steps_of" 2 false F_steps_of) (h_lead_of : FsOk P w K mg base 1 "lead_of" 2 false F_lead_of) : FnG P w K mg base 9 f fd p_lead (spFn K mg p_lead.length F_lead) := by
  have M : ModIs P w K mg base 8 C_lead := ⟨gd.sm, fun x n b F h => (by
    have h : t_lead x = some (n, b, F) := h
    simp only [t_lead] at h
    rcases ite_opt h with ⟨rfl, e⟩ | h
    · cases e; obtain ⟨y0, y1, y2, y3, y4, y5, y6, y7, y8, y9⟩ := h_need_signing.mono (k := 8) (by decide); exact ⟨y0, y1, y2, y3, y4, y5, y6, y7, y8, fun kn pm hk => y9 kn pm (kw_lead _ kn pm hk)⟩
    rcases ite_opt h with ⟨rfl, e⟩ | h
    · cases e; obtain ⟨y0, y1, y2, y3, y4, y5, y6, y7, y8, y9⟩ := h_steps_of.mono (k := 8) (by decide); exact ⟨y0, y1, y2, y3, y4, y5, y6, y7, y8, fun kn pm hk => y9 kn pm (kw_lead _ kn pm hk)⟩
    rcases ite_opt h with ⟨rfl, e⟩ | h
    · cases e; obtain ⟨y0, y1, y2, y3, y4, y5, y6, y7, y8, y9⟩ := h_lead_of.mono (k := 8) (by decide); exact ⟨y0, y1, y2, y3, y4, y5, y6, y7, y8, fun kn pm hk => y9 kn pm (kw_lead _ kn pm hk)⟩
    cases h), gd.ec, gd.cs, gd.ds, gd.fr⟩
  exact def_is a.fu S_lead M rfl rfl rfl 60 60 F_lead rfl (fun ds _ => .inr (by rw [e_lead]; rfl))
theorem kw_ways_to_towns (x : Str) (kn : List Str) (pm : List Nat) (h : k_ways_to_towns x kn = some pm) : kwT x kn = some pm := by
  simp only [k_ways_to_towns] at h
  cases h
theorem ok_ways_to_towns {f : Addr} {fd : FuncData} (gd : Gd w K mg base) (a : At K mg "ways_to_towns" s_ways_to_towns p_ways_to_towns f fd) (h_ways_from : FsOk P w K mg base 1 "ways_from" 2 false F_ways_from) (h_both_ways : FsOk P w K mg base 1 "both_ways" 1 false F_both_ways) : FnG P w K mg base 2 f fd p_ways_to_towns (spFn K mg p_ways_to_towns.length F_ways_to_towns) := by
  have M : ModIs P w K mg base 1 C_ways_to_towns := ⟨gd.sm, fun x n b F h => (by
    have h : t_ways_to_towns x = some (n, b, F) := h
    simp only [t_ways_to_towns] at h
    rcases ite_opt h with ⟨rfl, e⟩ | h
    · cases e; obtain ⟨y0, y1, y2, y3, y4, y5, y6, y7, y8, y9⟩ := h_ways_from.mono (k := 1) (by decide); exact ⟨y0, y1, y2, y3, y4, y5, y6, y7, y8, fun kn pm hk => y9 kn pm (kw_ways_to_towns _ kn pm hk)⟩
    rcases ite_opt h with ⟨rfl, e⟩ | h
    · cases e; obtain ⟨y0, y1, y2, y3, y4, y5, y6, y7, y8, y9⟩ := h_both_ways.mono (k := 1) (by decide); exact ⟨y0, y1, y2, y3, y4, y5, y6, y7, y8, fun kn pm hk => y9 kn pm (kw_ways_to_towns _ kn pm hk)⟩
    cases h), gd.ec, gd.cs, gd.ds, gd.fr⟩
  exact def_is a.fu S_ways_to_towns M rfl rfl rfl 60 60 F_ways_to_towns rfl (fun ds _ => .inr (by rw [e_ways_to_towns]; rfl))
theorem kw_climb (x : Str) (kn : List Str) (pm : List Nat) (h : k_climb x kn = some pm) : kwT x kn = some pm := by
  simp only [k_climb] at h
  cases h
theorem ok_climb {f : Addr} {fd : FuncData} (gd : Gd w K mg base) (a : At K mg "climb" s_climb p_climb f fd) (h_steps_from : FsOk P w K mg base 3 "steps_from" 3 false F_steps_from) (h_lead_of : FsOk P w K mg base 1 "lead_of" 2 false F_lead_of) : FnG P w K mg base 4 f fd p_climb (spFn K mg p_climb.length F_climb) := by
  have M : ModIs P w K mg base 3 C_climb := ⟨gd.sm, fun x n b F h => (by
    have h : t_climb x = some (n, b, F) := h
    simp only [t_climb] at h
    rcases ite_opt h with ⟨rfl, e⟩ | h
    · cases e; obtain ⟨y0, y1, y2, y3, y4, y5, y6, y7, y8, y9⟩ := h_steps_from.mono (k := 3) (by decide); exact ⟨y0, y1, y2, y3, y4, y5, y6, y7, y8, fun kn pm hk => y9 kn pm (kw_climb _ kn pm hk)⟩
    rcases ite_opt h with ⟨rfl, e⟩ | h
    · cases e; obtain ⟨y0, y1, y2, y3, y4, y5, y6, y7, y8, y9⟩ := h_lead_of.mono (k := 3) (by decide); exact ⟨y0, y1, y2, y3, y4, y5, y6, y7, y8, fun kn pm hk => y9 kn pm (kw_climb _ kn pm hk)⟩
    cases h), gd.ec, gd.cs, gd.ds, gd.fr⟩
  exact def_is a.fu S_climb M rfl rfl rfl 60 60 F_climb rfl (fun ds _ => .inr (by rw [e_climb]; rfl))
theorem kw_levels_between (x : Str) (kn : List Str) (pm : List Nat) (h : k_levels_between x kn = some pm) : kwT x kn = some pm := by
  simp only [k_levels_between] at h
  cases h
theorem ok_levels_between {f : Addr} {fd : FuncData} (gd : Gd w K mg base) (a : At K mg "levels_between" s_levels_between p_levels_between f fd) (h_climb : FsOk P w K mg base 4 "climb" 4 false F_climb) (h_ways_to_towns : FsOk P w K mg base 2 "ways_to_towns" 1 false F_ways_to_towns) : FnG P w K mg base 5 f fd p_levels_between (spFn K mg p_levels_between.length F_levels_between) := by
  have M : ModIs P w K mg base 4 C_levels_between := ⟨gd.sm, fun x n b F h => (by
    have h : t_levels_between x = some (n, b, F) := h
    simp only [t_levels_between] at h
    rcases ite_opt h with ⟨rfl, e⟩ | h
    · cases e; obtain ⟨y0, y1, y2, y3, y4, y5, y6, y7, y8, y9⟩ := h_climb.mono (k := 4) (by decide); exact ⟨y0, y1, y2, y3, y4, y5, y6, y7, y8, fun kn pm hk => y9 kn pm (kw_levels_between _ kn pm hk)⟩
    rcases ite_opt h with ⟨rfl, e⟩ | h
    · cases e; obtain ⟨y0, y1, y2, y3, y4, y5, y6, y7, y8, y9⟩ := h_ways_to_towns.mono (k := 4) (by decide); exact ⟨y0, y1, y2, y3, y4, y5, y6, y7, y8, fun kn pm hk => y9 kn pm (kw_levels_between _ kn pm hk)⟩
    cases h), gd.ec, gd.cs, gd.ds, gd.fr⟩
  exact def_is a.fu S_levels_between M rfl rfl rfl 60 60 F_levels_between rfl (fun ds _ => .inr (by rw [e_levels_between]; rfl))
theorem kw_unfit_streets (x : Str) (kn : List Str) (pm : List Nat) (h : k_unfit_streets x kn = some pm) : kwT x kn = some pm := by
  simp only [k_unfit_streets] at h
  cases h
theorem ok_unfit_streets {f : Addr} {fd : FuncData} (gd : Gd w K mg base) (a : At K mg "unfit_streets" s_unfit_streets p_unfit_streets f fd)  : FnG P w K mg base 1 f fd p_unfit_streets (spFn K mg p_unfit_streets.length F_unfit_streets) := by
  have M : ModIs P w K mg base 0 C_unfit_streets := ⟨gd.sm, fun x n b F h => (by
    have h : t_unfit_streets x = some (n, b, F) := h
    simp only [t_unfit_streets] at h
    cases h), gd.ec, gd.cs, gd.ds, gd.fr⟩
  exact def_is a.fu S_unfit_streets M rfl rfl rfl 60 60 F_unfit_streets rfl (fun ds _ => .inr (by rw [e_unfit_streets]; rfl))
theorem kw_heights (x : Str) (kn : List Str) (pm : List Nat) (h : k_heights x kn = some pm) : kwT x kn = some pm := by
  simp only [k_heights] at h
  cases h
theorem ok_heights {f : Addr} {fd : FuncData} (gd : Gd w K mg base) (a : At K mg "heights" s_heights p_heights f fd) (h_need_signings : FsOk P w K mg base 9 "need_signings" 3 false F_need_signings) (h_levels_between : FsOk P w K mg base 5 "levels_between" 3 false F_levels_between) (h_unfit_streets : FsOk P w K mg base 1 "unfit_streets" 4 false F_unfit_streets) : FnG P w K mg base 10 f fd p_heights (spFn K mg p_heights.length F_heights) := by
  have M : ModIs P w K mg base 9 C_heights := ⟨gd.sm, fun x n b F h => (by
    have h : t_heights x = some (n, b, F) := h
    simp only [t_heights] at h
    rcases ite_opt h with ⟨rfl, e⟩ | h
    · cases e; obtain ⟨y0, y1, y2, y3, y4, y5, y6, y7, y8, y9⟩ := h_need_signings.mono (k := 9) (by decide); exact ⟨y0, y1, y2, y3, y4, y5, y6, y7, y8, fun kn pm hk => y9 kn pm (kw_heights _ kn pm hk)⟩
    rcases ite_opt h with ⟨rfl, e⟩ | h
    · cases e; obtain ⟨y0, y1, y2, y3, y4, y5, y6, y7, y8, y9⟩ := h_levels_between.mono (k := 9) (by decide); exact ⟨y0, y1, y2, y3, y4, y5, y6, y7, y8, fun kn pm hk => y9 kn pm (kw_heights _ kn pm hk)⟩
    rcases ite_opt h with ⟨rfl, e⟩ | h
    · cases e; obtain ⟨y0, y1, y2, y3, y4, y5, y6, y7, y8, y9⟩ := h_unfit_streets.mono (k := 9) (by decide); exact ⟨y0, y1, y2, y3, y4, y5, y6, y7, y8, fun kn pm hk => y9 kn pm (kw_heights _ kn pm hk)⟩
    cases h), gd.ec, gd.cs, gd.ds, gd.fr⟩
  exact def_is a.fu S_heights M rfl rfl rfl 60 60 F_heights rfl (fun ds _ => .inr (by rw [e_heights]; rfl))
theorem kw_towns_up_to (x : Str) (kn : List Str) (pm : List Nat) (h : k_towns_up_to x kn = some pm) : kwT x kn = some pm := by
  simp only [k_towns_up_to] at h
  cases h
theorem ok_towns_up_to {f : Addr} {fd : FuncData} (gd : Gd w K mg base) (a : At K mg "towns_up_to" s_towns_up_to p_towns_up_to f fd)  : FnG P w K mg base 1 f fd p_towns_up_to (spFn K mg p_towns_up_to.length F_towns_up_to) := by
  have M : ModIs P w K mg base 0 C_towns_up_to := ⟨gd.sm, fun x n b F h => (by
    have h : t_towns_up_to x = some (n, b, F) := h
    simp only [t_towns_up_to] at h
    cases h), gd.ec, gd.cs, gd.ds, gd.fr⟩
  exact def_is a.fu S_towns_up_to M rfl rfl rfl 60 60 F_towns_up_to rfl (fun ds _ => .inr (by rw [e_towns_up_to]; rfl))
theorem kw_shores_up (x : Str) (kn : List Str) (pm : List Nat) (h : k_shores_up x kn = some pm) : kwT x kn = some pm := by
  simp only [k_shores_up] at h
  cases h
theorem ok_shores_up {f : Addr} {fd : FuncData} (gd : Gd w K mg base) (a : At K mg "shores_up" s_shores_up p_shores_up f fd) (h_towns_up_to : FsOk P w K mg base 1 "towns_up_to" 2 false F_towns_up_to) : FnG P w K mg base 2 f fd p_shores_up (spFn K mg p_shores_up.length F_shores_up) := by
  have M : ModIs P w K mg base 1 C_shores_up := ⟨gd.sm, fun x n b F h => (by
    have h : t_shores_up x = some (n, b, F) := h
    simp only [t_shores_up] at h
    rcases ite_opt h with ⟨rfl, e⟩ | h
    · cases e; obtain ⟨y0, y1, y2, y3, y4, y5, y6, y7, y8, y9⟩ := h_towns_up_to.mono (k := 1) (by decide); exact ⟨y0, y1, y2, y3, y4, y5, y6, y7, y8, fun kn pm hk => y9 kn pm (kw_shores_up _ kn pm hk)⟩
    cases h), gd.ec, gd.cs, gd.ds, gd.fr⟩
  exact def_is a.fu S_shores_up M rfl rfl rfl 60 60 F_shores_up rfl (fun ds _ => .inr (by rw [e_shores_up]; rfl))
theorem kw_streets_round (x : Str) (kn : List Str) (pm : List Nat) (h : k_streets_round x kn = some pm) : kwT x kn = some pm := by
  simp only [k_streets_round] at h
  cases h
theorem ok_streets_round {f : Addr} {fd : FuncData} (gd : Gd w K mg base) (a : At K mg "streets_round" s_streets_round p_streets_round f fd) (h_ways_to_towns : FsOk P w K mg base 2 "ways_to_towns" 1 false F_ways_to_towns) : FnG P w K mg base 3 f fd p_streets_round (spFn K mg p_streets_round.length F_streets_round) := by
  have M : ModIs P w K mg base 2 C_streets_round := ⟨gd.sm, fun x n b F h => (by
    have h : t_streets_round x = some (n, b, F) := h
    simp only [t_streets_round] at h
    rcases ite_opt h with ⟨rfl, e⟩ | h
    · cases e; obtain ⟨y0, y1, y2, y3, y4, y5, y6, y7, y8, y9⟩ := h_ways_to_towns.mono (k := 2) (by decide); exact ⟨y0, y1, y2, y3, y4, y5, y6, y7, y8, fun kn pm hk => y9 kn pm (kw_streets_round _ kn pm hk)⟩
    cases h), gd.ec, gd.cs, gd.ds, gd.fr⟩
  exact def_is a.fu S_streets_round M rfl rfl rfl 60 60 F_streets_round rfl (fun ds _ => .inr (by rw [e_streets_round]; rfl))
theorem kw_by_shores (x : Str) (kn : List Str) (pm : List Nat) (h : k_by_shores x kn = some pm) : kwT x kn = some pm := by
  simp only [k_by_shores] at h
  cases h
theorem ok_by_shores {f : Addr} {fd : FuncData} (gd : Gd w K mg base) (a : At K mg "by_shores" s_by_shores p_by_shores f fd) (h_need_signings : FsOk P w K mg base 9 "need_signings" 3 false F_need_signings) (h_levels_between : FsOk P w K mg base 5 "levels_between" 3 false F_levels_between) (h_unfit_streets : FsOk P w K mg base 1 "unfit_streets" 4 false F_unfit_streets) (h_shores_up : FsOk P w K mg base 2 "shores_up" 1 false F_shores_up) (h_streets_round : FsOk P w K mg base 3 "streets_round" 2 false F_streets_round) : FnG P w K mg base 10 f fd p_by_shores (spFn K mg p_by_shores.length F_by_shores) := by
  have M : ModIs P w K mg base 9 C_by_shores := ⟨gd.sm, fun x n b F h => (by
    have h : t_by_shores x = some (n, b, F) := h
    simp only [t_by_shores] at h
    rcases ite_opt h with ⟨rfl, e⟩ | h
    · cases e; obtain ⟨y0, y1, y2, y3, y4, y5, y6, y7, y8, y9⟩ := h_need_signings.mono (k := 9) (by decide); exact ⟨y0, y1, y2, y3, y4, y5, y6, y7, y8, fun kn pm hk => y9 kn pm (kw_by_shores _ kn pm hk)⟩
    rcases ite_opt h with ⟨rfl, e⟩ | h
    · cases e; obtain ⟨y0, y1, y2, y3, y4, y5, y6, y7, y8, y9⟩ := h_levels_between.mono (k := 9) (by decide); exact ⟨y0, y1, y2, y3, y4, y5, y6, y7, y8, fun kn pm hk => y9 kn pm (kw_by_shores _ kn pm hk)⟩
    rcases ite_opt h with ⟨rfl, e⟩ | h
    · cases e; obtain ⟨y0, y1, y2, y3, y4, y5, y6, y7, y8, y9⟩ := h_unfit_streets.mono (k := 9) (by decide); exact ⟨y0, y1, y2, y3, y4, y5, y6, y7, y8, fun kn pm hk => y9 kn pm (kw_by_shores _ kn pm hk)⟩
    rcases ite_opt h with ⟨rfl, e⟩ | h
    · cases e; obtain ⟨y0, y1, y2, y3, y4, y5, y6, y7, y8, y9⟩ := h_shores_up.mono (k := 9) (by decide); exact ⟨y0, y1, y2, y3, y4, y5, y6, y7, y8, fun kn pm hk => y9 kn pm (kw_by_shores _ kn pm hk)⟩
    rcases ite_opt h with ⟨rfl, e⟩ | h
    · cases e; obtain ⟨y0, y1, y2, y3, y4, y5, y6, y7, y8, y9⟩ := h_streets_round.mono (k := 9) (by decide); exact ⟨y0, y1, y2, y3, y4, y5, y6, y7, y8, fun kn pm hk => y9 kn pm (kw_by_shores _ kn pm hk)⟩
    cases h), gd.ec, gd.cs, gd.ds, gd.fr⟩
  exact def_is a.fu S_by_shores M rfl rfl rfl 60 60 F_by_shores rfl (fun ds _ => .inr (by rw [e_by_shores]; rfl))
theorem kw_is_unlike_round (x : Str) (kn : List Str) (pm : List Nat) (h : k_is_unlike_round x kn = some pm) : kwT x kn = some pm := by
  simp only [k_is_unlike_round] at h
  cases h
theorem ok_is_unlike_round {f : Addr} {fd : FuncData} (gd : Gd w K mg base) (a : At K mg "is_unlike_round" s_is_unlike_round p_is_unlike_round f fd) (h_steps_of : FsOk P w K mg base 4 "steps_of" 2 false F_steps_of) (h_lead_of : FsOk P w K mg base 1 "lead_of" 2 false F_lead_of) : FnG P w K mg base 5 f fd p_is_unlike_round (spFn K mg p_is_unlike_round.length F_is_unlike_round) := by
  have M : ModIs P w K mg base 4 C_is_unlike_round := ⟨gd.sm, fun x n b F h => (by
    have h : t_is_unlike_round x = some (n, b, F) := h
    simp only [t_is_unlike_round] at h
    rcases ite_opt h with ⟨rfl, e⟩ | h
    · cases e; obtain ⟨y0, y1, y2, y3, y4, y5, y6, y7, y8, y9⟩ := h_steps_of.mono (k := 4) (by decide); exact ⟨y0, y1, y2, y3, y4, y5, y6, y7, y8, fun kn pm hk => y9 kn pm (kw_is_unlike_round _ kn pm hk)⟩
    rcases ite_opt h with ⟨rfl, e⟩ | h
    · cases e; obtain ⟨y0, y1, y2, y3, y4, y5, y6, y7, y8, y9⟩ := h_lead_of.mono (k := 4) (by decide); exact ⟨y0, y1, y2, y3, y4, y5, y6, y7, y8, fun kn pm hk => y9 kn pm (kw_is_unlike_round _ kn pm hk)⟩
    cases h), gd.ec, gd.cs, gd.ds, gd.fr⟩
  exact def_is a.fu S_is_unlike_round M rfl rfl rfl 60 60 F_is_unlike_round rfl (fun ds _ => .inr (by rw [e_is_unlike_round]; rfl))
theorem kw_shows_by_shores (x : Str) (kn : List Str) (pm : List Nat) (h : k_shows_by_shores x kn = some pm) : kwT x kn = some pm := by
  simp only [k_shows_by_shores] at h
  cases h
theorem ok_shows_by_shores {f : Addr} {fd : FuncData} (gd : Gd w K mg base) (a : At K mg "shows_by_shores" s_shows_by_shores p_shows_by_shores f fd) (h_need_signings : FsOk P w K mg base 9 "need_signings" 3 false F_need_signings) (h_is_pair : FsOk P w K mg base 1 "is_pair" 1 false F_is_pair) (h_is_triple : FsOk P w K mg base 1 "is_triple" 1 false F_is_triple) (h_is_unlike_round : FsOk P w K mg base 5 "is_unlike_round" 4 false F_is_unlike_round) (h_leads_there : FsOk P w K mg base 8 "leads_there" 5 false F_leads_there) : FnG P w K mg base 10 f fd p_shows_by_shores (spFn K mg p_shows_by_shores.length F_shows_by_shores) := by
  have M : ModIs P w K mg base 9 C_shows_by_shores := ⟨gd.sm, fun x n b F h => (by
    have h : t_shows_by_shores x = some (n, b, F) := h
    simp only [t_shows_by_shores] at h
    rcases ite_opt h with ⟨rfl, e⟩ | h
    · cases e; obtain ⟨y0, y1, y2, y3, y4, y5, y6, y7, y8, y9⟩ := h_need_signings.mono (k := 9) (by decide); exact ⟨y0, y1, y2, y3, y4, y5, y6, y7, y8, fun kn pm hk => y9 kn pm (kw_shows_by_shores _ kn pm hk)⟩
    rcases ite_opt h with ⟨rfl, e⟩ | h
    · cases e; obtain ⟨y0, y1, y2, y3, y4, y5, y6, y7, y8, y9⟩ := h_is_pair.mono (k := 9) (by decide); exact ⟨y0, y1, y2, y3, y4, y5, y6, y7, y8, fun kn pm hk => y9 kn pm (kw_shows_by_shores _ kn pm hk)⟩
    rcases ite_opt h with ⟨rfl, e⟩ | h
    · cases e; obtain ⟨y0, y1, y2, y3, y4, y5, y6, y7, y8, y9⟩ := h_is_triple.mono (k := 9) (by decide); exact ⟨y0, y1, y2, y3, y4, y5, y6, y7, y8, fun kn pm hk => y9 kn pm (kw_shows_by_shores _ kn pm hk)⟩
    rcases ite_opt h with ⟨rfl, e⟩ | h
    · cases e; obtain ⟨y0, y1, y2, y3, y4, y5, y6, y7, y8, y9⟩ := h_is_unlike_round.mono (k := 9) (by decide); exact ⟨y0, y1, y2, y3, y4, y5, y6, y7, y8, fun kn pm hk => y9 kn pm (kw_shows_by_shores _ kn pm hk)⟩
    rcases ite_opt h with ⟨rfl, e⟩ | h
    · cases e; obtain ⟨y0, y1, y2, y3, y4, y5, y6, y7, y8, y9⟩ := h_leads_there.mono (k := 9) (by decide); exact ⟨y0, y1, y2, y3, y4, y5, y6, y7, y8, fun kn pm hk => y9 kn pm (kw_shows_by_shores _ kn pm hk)⟩
    cases h), gd.ec, gd.cs, gd.ds, gd.fr⟩
  exact def_is a.fu S_shows_by_shores M rfl rfl rfl 60 60 F_shows_by_shores rfl (fun ds _ => .inr (by rw [e_shows_by_shores]; rfl))
theorem kw_ring_through (x : Str) (kn : List Str) (pm : List Nat) (h : k_ring_through x kn = some pm) : kwT x kn = some pm := by
  simp only [k_ring_through] at h
  cases h
theorem ok_ring_through {f : Addr} {fd : FuncData} (gd : Gd w K mg base) (a : At K mg "ring_through" s_ring_through p_ring_through f fd) (h_ways_from : FsOk P w K mg base 1 "ways_from" 2 false F_ways_from) : FnG P w K mg base 2 f fd p_ring_through (spFn K mg p_ring_through.length F_ring_through) := by
  have M : ModIs P w K mg base 1 C_ring_through := ⟨gd.sm, fun x n b F h => (by
    have h : t_ring_through x = some (n, b, F) := h
    simp only [t_ring_through] at h
    rcases ite_opt h with ⟨rfl, e⟩ | h
    · cases e; obtain ⟨y0, y1, y2, y3, y4, y5, y6, y7, y8, y9⟩ := h_ways_from.mono (k := 1) (by decide); exact ⟨y0, y1, y2, y3, y4, y5, y6, y7, y8, fun kn pm hk => y9 kn pm (kw_ring_through _ kn pm hk)⟩
    cases h), gd.ec, gd.cs, gd.ds, gd.fr⟩
  exact def_is a.fu S_ring_through M rfl rfl rfl 60 60 F_ring_through rfl (fun ds _ => .inr (by rw [e_ring_through]; rfl))
theorem kw_unlike_places (x : Str) (kn : List Str) (pm : List Nat) (h : k_unlike_places x kn = some pm) : kwT x kn = some pm := by
  simp only [k_unlike_places] at h
  cases h
theorem ok_unlike_places {f : Addr} {fd : FuncData} (gd : Gd w K mg base) (a : At K mg "unlike_places" s_unlike_places p_unlike_places f fd)  : FnG P w K mg base 1 f fd p_unlike_places (spFn K mg p_unlike_places.length F_unlike_places) := by
  have M : ModIs P w K mg base 0 C_unlike_places := ⟨gd.sm, fun x n b F h => (by
    have h : t_unlike_places x = some (n, b, F) := h
    simp only [t_unlike_places] at h
    cases h), gd.ec, gd.cs, gd.ds, gd.fr⟩
  exact def_is a.fu S_unlike_places M rfl rfl rfl 60 60 F_unlike_places rfl (fun ds _ => .inr (by rw [e_unlike_places]; rfl))
theorem kw_rings_between (x : Str) (kn : List Str) (pm : List Nat) (h : k_rings_between x kn = some pm) : kwT x kn = some pm := by
  simp only [k_rings_between] at h
  cases h
theorem ok_rings_between {f : Addr} {fd : FuncData} (gd : Gd w K mg base) (a : At K mg "rings_between" s_rings_between p_rings_between f fd) (h_paths_of : FsOk P w K mg base 1 "paths_of" 2 false F_paths_of) (h_unlike_places : FsOk P w K mg base 1 "unlike_places" 2 false F_unlike_places) (h_ring_through : FsOk P w K mg base 2 "ring_through" 3 false F_ring_through) : FnG P w K mg base 3 f fd p_rings_between (spFn K mg p_rings_between.length F_rings_between) := by
  have M : ModIs P w K mg base 2 C_rings_between := ⟨gd.sm, fun x n b F h => (by
    have h : t_rings_between x = some (n, b, F) := h
    simp only [t_rings_between] at h
    rcases ite_opt h with ⟨rfl, e⟩ | h
    · cases e; obtain ⟨y0, y1, y2, y3, y4, y5, y6, y7, y8, y9⟩ := h_paths_of.mono (k := 2) (by decide); exact ⟨y0, y1, y2, y3, y4, y5, y6, y7, y8, fun kn pm hk => y9 kn pm (kw_rings_between _ kn pm hk)⟩
    rcases ite_opt h with ⟨rfl, e⟩ | h
    · cases e; obtain ⟨y0, y1, y2, y3, y4, y5, y6, y7, y8, y9⟩ := h_unlike_places.mono (k := 2) (by decide); exact ⟨y0, y1, y2, y3, y4, y5, y6, y7, y8, fun kn pm hk => y9 kn pm (kw_rings_between _ kn pm hk)⟩
    rcases ite_opt h with ⟨rfl, e⟩ | h
    · cases e; obtain ⟨y0, y1, y2, y3, y4, y5, y6, y7, y8, y9⟩ := h_ring_through.mono (k := 2) (by decide); exact ⟨y0, y1, y2, y3, y4, y5, y6, y7, y8, fun kn pm hk => y9 kn pm (kw_rings_between _ kn pm hk)⟩
    cases h), gd.ec, gd.cs, gd.ds, gd.fr⟩
  exact def_is a.fu S_rings_between M rfl rfl rfl 60 60 F_rings_between rfl (fun ds _ => .inr (by rw [e_rings_between]; rfl))
theorem kw_unlike_towns (x : Str) (kn : List Str) (pm : List Nat) (h : k_unlike_towns x kn = some pm) : kwT x kn = some pm := by
  simp only [k_unlike_towns] at h
  cases h
theorem ok_unlike_towns {f : Addr} {fd : FuncData} (gd : Gd w K mg base) (a : At K mg "unlike_towns" s_unlike_towns p_unlike_towns f fd) (h_unlike_places : FsOk P w K mg base 1 "unlike_places" 2 false F_unlike_places) (h_outs : FsOk P w K mg base 9 "outs" 2 false F_outs) : FnG P w K mg base 10 f fd p_unlike_towns (spFn K mg p_unlike_towns.length F_unlike_towns) := by
  have M : ModIs P w K mg base 9 C_unlike_towns := ⟨gd.sm, fun x n b F h => (by
    have h : t_unlike_towns x = some (n, b, F) := h
    simp only [t_unlike_towns] at h
    rcases ite_opt h with ⟨rfl, e⟩ | h
    · cases e; obtain ⟨y0, y1, y2, y3, y4, y5, y6, y7, y8, y9⟩ := h_unlike_places.mono (k := 9) (by decide); exact ⟨y0, y1, y2, y3, y4, y5, y6, y7, y8, fun kn pm hk => y9 kn pm (kw_unlike_towns _ kn pm hk)⟩
    rcases ite_opt h with ⟨rfl, e⟩ | h
    · cases e; obtain ⟨y0, y1, y2, y3, y4, y5, y6, y7, y8, y9⟩ := h_outs.mono (k := 9) (by decide); exact ⟨y0, y1, y2, y3, y4, y5, y6, y7, y8, fun kn pm hk => y9 kn pm (kw_unlike_towns _ kn pm hk)⟩
    cases h), gd.ec, gd.cs, gd.ds, gd.fr⟩
  exact def_is a.fu S_unlike_towns M rfl rfl rfl 60 60 F_unlike_towns rfl (fun ds _ => .inr (by rw [e_unlike_towns]; rfl))
theorem kw_by_rings (x : Str) (kn : List Str) (pm : List Nat) (h : k_by_rings x kn = some pm) : kwT x kn = some pm := by
  simp only [k_by_rings] at h
  cases h
theorem ok_by_rings {f : Addr} {fd : FuncData} (gd : Gd w K mg base) (a : At K mg "by_rings" s_by_rings p_by_rings f fd) (h_need_signings : FsOk P w K mg base 9 "need_signings" 3 false F_need_signings) (h_unlike_towns : FsOk P w K mg base 10 "unlike_towns" 3 false F_unlike_towns) (h_rings_between : FsOk P w K mg base 3 "rings_between" 3 false F_rings_between) : FnG P w K mg base 11 f fd p_by_rings (spFn K mg p_by_rings.length F_by_rings) := by
  have M : ModIs P w K mg base 10 C_by_rings := ⟨gd.sm, fun x n b F h => (by
    have h : t_by_rings x = some (n, b, F) := h
    simp only [t_by_rings] at h
    rcases ite_opt h with ⟨rfl, e⟩ | h
    · cases e; obtain ⟨y0, y1, y2, y3, y4, y5, y6, y7, y8, y9⟩ := h_need_signings.mono (k := 10) (by decide); exact ⟨y0, y1, y2, y3, y4, y5, y6, y7, y8, fun kn pm hk => y9 kn pm (kw_by_rings _ kn pm hk)⟩
    rcases ite_opt h with ⟨rfl, e⟩ | h
    · cases e; obtain ⟨y0, y1, y2, y3, y4, y5, y6, y7, y8, y9⟩ := h_unlike_towns.mono (k := 10) (by decide); exact ⟨y0, y1, y2, y3, y4, y5, y6, y7, y8, fun kn pm hk => y9 kn pm (kw_by_rings _ kn pm hk)⟩
    rcases ite_opt h with ⟨rfl, e⟩ | h
    · cases e; obtain ⟨y0, y1, y2, y3, y4, y5, y6, y7, y8, y9⟩ := h_rings_between.mono (k := 10) (by decide); exact ⟨y0, y1, y2, y3, y4, y5, y6, y7, y8, fun kn pm hk => y9 kn pm (kw_by_rings _ kn pm hk)⟩
    cases h), gd.ec, gd.cs, gd.ds, gd.fr⟩
  exact def_is a.fu S_by_rings M rfl rfl rfl 60 60 F_by_rings rfl (fun ds _ => .inr (by rw [e_by_rings]; rfl))
theorem kw_shows_by_rings (x : Str) (kn : List Str) (pm : List Nat) (h : k_shows_by_rings x kn = some pm) : kwT x kn = some pm := by
  simp only [k_shows_by_rings] at h
  cases h
theorem ok_shows_by_rings {f : Addr} {fd : FuncData} (gd : Gd w K mg base) (a : At K mg "shows_by_rings" s_shows_by_rings p_shows_by_rings f fd) (h_need_signings : FsOk P w K mg base 9 "need_signings" 3 false F_need_signings) (h_is_pair : FsOk P w K mg base 1 "is_pair" 1 false F_is_pair) (h_leads_there : FsOk P w K mg base 8 "leads_there" 5 false F_leads_there) (h_is_below : FsOk P w K mg base 2 "is_below" 2 false F_is_below) (h_unlike_towns : FsOk P w K mg base 10 "unlike_towns" 3 false F_unlike_towns) : FnG P w K mg base 11 f fd p_shows_by_rings (spFn K mg p_shows_by_rings.length F_shows_by_rings) := by
  have M : ModIs P w K mg base 10 C_shows_by_rings := ⟨gd.sm, fun x n b F h => (by
    have h : t_shows_by_rings x = some (n, b, F) := h
    simp only [t_shows_by_rings] at h
    rcases ite_opt h with ⟨rfl, e⟩ | h
    · cases e; obtain ⟨y0, y1, y2, y3, y4, y5, y6, y7, y8, y9⟩ := h_need_signings.mono (k := 10) (by decide); exact ⟨y0, y1, y2, y3, y4, y5, y6, y7, y8, fun kn pm hk => y9 kn pm (kw_shows_by_rings _ kn pm hk)⟩
    rcases ite_opt h with ⟨rfl, e⟩ | h
    · cases e; obtain ⟨y0, y1, y2, y3, y4, y5, y6, y7, y8, y9⟩ := h_is_pair.mono (k := 10) (by decide); exact ⟨y0, y1, y2, y3, y4, y5, y6, y7, y8, fun kn pm hk => y9 kn pm (kw_shows_by_rings _ kn pm hk)⟩
    rcases ite_opt h with ⟨rfl, e⟩ | h
    · cases e; obtain ⟨y0, y1, y2, y3, y4, y5, y6, y7, y8, y9⟩ := h_leads_there.mono (k := 10) (by decide); exact ⟨y0, y1, y2, y3, y4, y5, y6, y7, y8, fun kn pm hk => y9 kn pm (kw_shows_by_rings _ kn pm hk)⟩
    rcases ite_opt h with ⟨rfl, e⟩ | h
    · cases e; obtain ⟨y0, y1, y2, y3, y4, y5, y6, y7, y8, y9⟩ := h_is_below.mono (k := 10) (by decide); exact ⟨y0, y1, y2, y3, y4, y5, y6, y7, y8, fun kn pm hk => y9 kn pm (kw_shows_by_rings _ kn pm hk)⟩
    rcases ite_opt h with ⟨rfl, e⟩ | h
    · cases e; obtain ⟨y0, y1, y2, y3, y4, y5, y6, y7, y8, y9⟩ := h_unlike_towns.mono (k := 10) (by decide); exact ⟨y0, y1, y2, y3, y4, y5, y6, y7, y8, fun kn pm hk => y9 kn pm (kw_shows_by_rings _ kn pm hk)⟩
    cases h), gd.ec, gd.cs, gd.ds, gd.fr⟩
  exact def_is a.fu S_shows_by_rings M rfl rfl rfl 60 60 F_shows_by_rings rfl (fun ds _ => .inr (by rw [e_shows_by_rings]; rfl))
theorem kw__law_cell_at (x : Str) (kn : List Str) (pm : List Nat) (h : k__law_cell_at x kn = some pm) : kwT x kn = some pm := by
  simp only [k__law_cell_at] at h
  cases h
theorem ok__law_cell_at {f : Addr} {fd : FuncData} (gd : Gd w K mg base) (a : At K mg "_law_cell_at" s__law_cell_at p__law_cell_at f fd)  : FnG P w K mg base 1 f fd p__law_cell_at (spFn K mg p__law_cell_at.length F__law_cell_at) := by
  have M : ModIs P w K mg base 0 C__law_cell_at := ⟨gd.sm, fun x n b F h => (by
    have h : t__law_cell_at x = some (n, b, F) := h
    simp only [t__law_cell_at] at h
    cases h), gd.ec, gd.cs, gd.ds, gd.fr⟩
  exact def_is a.fu S__law_cell_at M rfl rfl rfl 60 60 F__law_cell_at rfl (fun ds _ => .inr (by rw [e__law_cell_at]; rfl))
theorem kw__law_pen (x : Str) (kn : List Str) (pm : List Nat) (h : k__law_pen x kn = some pm) : kwT x kn = some pm := by
  simp only [k__law_pen] at h
  cases h
theorem ok__law_pen {f : Addr} {fd : FuncData} (gd : Gd w K mg base) (a : At K mg "_law_pen" s__law_pen p__law_pen f fd)  : FnG P w K mg base 1 f fd p__law_pen (spFn K mg p__law_pen.length F__law_pen) := by
  have M : ModIs P w K mg base 0 C__law_pen := ⟨gd.sm, fun x n b F h => (by
    have h : t__law_pen x = some (n, b, F) := h
    simp only [t__law_pen] at h
    cases h), gd.ec, gd.cs, gd.ds, gd.fr⟩
  exact def_is a.fu S__law_pen M rfl rfl rfl 60 60 F__law_pen rfl (fun ds _ => .inr (by rw [e__law_pen]; rfl))
theorem kw__law_draw (x : Str) (kn : List Str) (pm : List Nat) (h : k__law_draw x kn = some pm) : kwT x kn = some pm := by
  simp only [k__law_draw] at h
  cases h
theorem ok__law_draw {f : Addr} {fd : FuncData} (gd : Gd w K mg base) (a : At K mg "_law_draw" s__law_draw p__law_draw f fd)  : FnG P w K mg base 1 f fd p__law_draw (spFn K mg p__law_draw.length F__law_draw) := by
  have M : ModIs P w K mg base 0 C__law_draw := ⟨gd.sm, fun x n b F h => (by
    have h : t__law_draw x = some (n, b, F) := h
    simp only [t__law_draw] at h
    cases h), gd.ec, gd.cs, gd.ds, gd.fr⟩
  exact def_is a.fu S__law_draw M rfl rfl rfl 60 60 F__law_draw rfl (fun ds _ => .inr (by rw [e__law_draw]; rfl))
theorem kw__law_rings_right (x : Str) (kn : List Str) (pm : List Nat) (h : k__law_rings_right x kn = some pm) : kwT x kn = some pm := by
  simp only [k__law_rings_right] at h
  rcases ite_opt h with ⟨⟨rfl, rfl⟩, rfl⟩ | h
  · decide +kernel
  rcases ite_opt h with ⟨⟨rfl, rfl⟩, rfl⟩ | h
  · decide +kernel
  cases h
theorem ok__law_rings_right {f : Addr} {fd : FuncData} (gd : Gd w K mg base) (a : At K mg "_law_rings_right" s__law_rings_right p__law_rings_right f fd) (h_shows_by_rings : FsOk P w K mg base 11 "shows_by_rings" 4 false F_shows_by_rings) (h_by_rings : FsOk P w K mg base 11 "by_rings" 3 false F_by_rings) : FnG P w K mg base 12 f fd p__law_rings_right (spFn K mg p__law_rings_right.length F__law_rings_right) := by
  have M : ModIs P w K mg base 11 C__law_rings_right := ⟨gd.sm, fun x n b F h => (by
    have h : t__law_rings_right x = some (n, b, F) := h
    simp only [t__law_rings_right] at h
    rcases ite_opt h with ⟨rfl, e⟩ | h
    · cases e; obtain ⟨y0, y1, y2, y3, y4, y5, y6, y7, y8, y9⟩ := h_shows_by_rings.mono (k := 11) (by decide); exact ⟨y0, y1, y2, y3, y4, y5, y6, y7, y8, fun kn pm hk => y9 kn pm (kw__law_rings_right _ kn pm hk)⟩
    rcases ite_opt h with ⟨rfl, e⟩ | h
    · cases e; obtain ⟨y0, y1, y2, y3, y4, y5, y6, y7, y8, y9⟩ := h_by_rings.mono (k := 11) (by decide); exact ⟨y0, y1, y2, y3, y4, y5, y6, y7, y8, fun kn pm hk => y9 kn pm (kw__law_rings_right _ kn pm hk)⟩
    cases h), gd.ec, gd.cs, gd.ds, gd.fr⟩
  exact def_is a.fu S__law_rings_right M rfl rfl rfl 60 60 F__law_rings_right rfl (fun ds _ => .inr (by rw [e__law_rings_right]; rfl))
theorem kw__law_shores_right (x : Str) (kn : List Str) (pm : List Nat) (h : k__law_shores_right x kn = some pm) : kwT x kn = some pm := by
  simp only [k__law_shores_right] at h
  rcases ite_opt h with ⟨⟨rfl, rfl⟩, rfl⟩ | h
  · decide +kernel
  rcases ite_opt h with ⟨⟨rfl, rfl⟩, rfl⟩ | h
  · decide +kernel
  rcases ite_opt h with ⟨⟨rfl, rfl⟩, rfl⟩ | h
  · decide +kernel
  rcases ite_opt h with ⟨⟨rfl, rfl⟩, rfl⟩ | h
  · decide +kernel
  cases h
theorem ok__law_shores_right {f : Addr} {fd : FuncData} (gd : Gd w K mg base) (a : At K mg "_law_shores_right" s__law_shores_right p__law_shores_right f fd) (h_heights : FsOk P w K mg base 10 "heights" 3 false F_heights) (h_shows_by_shores : FsOk P w K mg base 10 "shows_by_shores" 4 false F_shows_by_shores) (h_by_shores : FsOk P w K mg base 10 "by_shores" 3 false F_by_shores) (h_lead : FsOk P w K mg base 9 "lead" 3 false F_lead) : FnG P w K mg base 11 f fd p__law_shores_right (spFn K mg p__law_shores_right.length F__law_shores_right) := by
  have M : ModIs P w K mg base 10 C__law_shores_right := ⟨gd.sm, fun x n b F h => (by
    have h : t__law_shores_right x = some (n, b, F) := h
    simp only [t__law_shores_right] at h
    rcases ite_opt h with ⟨rfl, e⟩ | h
    · cases e; obtain ⟨y0, y1, y2, y3, y4, y5, y6, y7, y8, y9⟩ := h_heights.mono (k := 10) (by decide); exact ⟨y0, y1, y2, y3, y4, y5, y6, y7, y8, fun kn pm hk => y9 kn pm (kw__law_shores_right _ kn pm hk)⟩
    rcases ite_opt h with ⟨rfl, e⟩ | h
    · cases e; obtain ⟨y0, y1, y2, y3, y4, y5, y6, y7, y8, y9⟩ := h_shows_by_shores.mono (k := 10) (by decide); exact ⟨y0, y1, y2, y3, y4, y5, y6, y7, y8, fun kn pm hk => y9 kn pm (kw__law_shores_right _ kn pm hk)⟩
    rcases ite_opt h with ⟨rfl, e⟩ | h
    · cases e; obtain ⟨y0, y1, y2, y3, y4, y5, y6, y7, y8, y9⟩ := h_by_shores.mono (k := 10) (by decide); exact ⟨y0, y1, y2, y3, y4, y5, y6, y7, y8, fun kn pm hk => y9 kn pm (kw__law_shores_right _ kn pm hk)⟩
    rcases ite_opt h with ⟨rfl, e⟩ | h
    · cases e; obtain ⟨y0, y1, y2, y3, y4, y5, y6, y7, y8, y9⟩ := h_lead.mono (k := 10) (by decide); exact ⟨y0, y1, y2, y3, y4, y5, y6, y7, y8, fun kn pm hk => y9 kn pm (kw__law_shores_right _ kn pm hk)⟩
    cases h), gd.ec, gd.cs, gd.ds, gd.fr⟩
  exact def_is a.fu S__law_shores_right M rfl rfl rfl 60 60 F__law_shores_right rfl (fun ds _ => .inr (by rw [e__law_shores_right]; rfl))
theorem kw__law_two_right (x : Str) (kn : List Str) (pm : List Nat) (h : k__law_two_right x kn = some pm) : kwT x kn = some pm := by
  simp only [k__law_two_right] at h
  cases h
theorem ok__law_two_right {f : Addr} {fd : FuncData} (gd : Gd w K mg base) (a : At K mg "_law_two_right" s__law_two_right p__law_two_right f fd) (h_heights : FsOk P w K mg base 10 "heights" 3 false F_heights) (h_by_rings : FsOk P w K mg base 11 "by_rings" 3 false F_by_rings) : FnG P w K mg base 12 f fd p__law_two_right (spFn K mg p__law_two_right.length F__law_two_right) := by
  have M : ModIs P w K mg base 11 C__law_two_right := ⟨gd.sm, fun x n b F h => (by
    have h : t__law_two_right x = some (n, b, F) := h
    simp only [t__law_two_right] at h
    rcases ite_opt h with ⟨rfl, e⟩ | h
    · cases e; obtain ⟨y0, y1, y2, y3, y4, y5, y6, y7, y8, y9⟩ := h_heights.mono (k := 11) (by decide); exact ⟨y0, y1, y2, y3, y4, y5, y6, y7, y8, fun kn pm hk => y9 kn pm (kw__law_two_right _ kn pm hk)⟩
    rcases ite_opt h with ⟨rfl, e⟩ | h
    · cases e; obtain ⟨y0, y1, y2, y3, y4, y5, y6, y7, y8, y9⟩ := h_by_rings.mono (k := 11) (by decide); exact ⟨y0, y1, y2, y3, y4, y5, y6, y7, y8, fun kn pm hk => y9 kn pm (kw__law_two_right _ kn pm hk)⟩
    cases h), gd.ec, gd.cs, gd.ds, gd.fr⟩
  exact def_is a.fu S__law_two_right M rfl rfl rfl 60 60 F__law_two_right rfl (fun ds _ => .inr (by rw [e__law_two_right]; rfl))
theorem kw_law (x : Str) (kn : List Str) (pm : List Nat) (h : k_law x kn = some pm) : kwT x kn = some pm := by
  simp only [k_law] at h
  cases h
theorem ok_law {f : Addr} {fd : FuncData} (gd : Gd w K mg base) (a : At K mg "law" s_law p_law f fd) (h__law_draw : FsOk P w K mg base 1 "_law_draw" 2 true F__law_draw) (h__law_pen : FsOk P w K mg base 1 "_law_pen" 1 false F__law_pen) (h_heights : FsOk P w K mg base 10 "heights" 3 false F_heights) (h_by_shores : FsOk P w K mg base 10 "by_shores" 3 false F_by_shores) (h__law_cell_at : FsOk P w K mg base 1 "_law_cell_at" 2 false F__law_cell_at) (h__law_rings_right : FsOk P w K mg base 12 "_law_rings_right" 1 false F__law_rings_right) (h__law_shores_right : FsOk P w K mg base 11 "_law_shores_right" 1 false F__law_shores_right) (h__law_two_right : FsOk P w K mg base 12 "_law_two_right" 1 false F__law_two_right) : FnG P w K mg base 13 f fd p_law (spFn K mg p_law.length F_law) := by
  have M : ModIs P w K mg base 12 C_law := ⟨gd.sm, fun x n b F h => (by
    have h : t_law x = some (n, b, F) := h
    simp only [t_law] at h
    rcases ite_opt h with ⟨rfl, e⟩ | h
    · cases e; obtain ⟨y0, y1, y2, y3, y4, y5, y6, y7, y8, y9⟩ := h__law_draw.mono (k := 12) (by decide); exact ⟨y0, y1, y2, y3, y4, y5, y6, y7, y8, fun kn pm hk => y9 kn pm (kw_law _ kn pm hk)⟩
    rcases ite_opt h with ⟨rfl, e⟩ | h
    · cases e; obtain ⟨y0, y1, y2, y3, y4, y5, y6, y7, y8, y9⟩ := h__law_pen.mono (k := 12) (by decide); exact ⟨y0, y1, y2, y3, y4, y5, y6, y7, y8, fun kn pm hk => y9 kn pm (kw_law _ kn pm hk)⟩
    rcases ite_opt h with ⟨rfl, e⟩ | h
    · cases e; obtain ⟨y0, y1, y2, y3, y4, y5, y6, y7, y8, y9⟩ := h_heights.mono (k := 12) (by decide); exact ⟨y0, y1, y2, y3, y4, y5, y6, y7, y8, fun kn pm hk => y9 kn pm (kw_law _ kn pm hk)⟩
    rcases ite_opt h with ⟨rfl, e⟩ | h
    · cases e; obtain ⟨y0, y1, y2, y3, y4, y5, y6, y7, y8, y9⟩ := h_by_shores.mono (k := 12) (by decide); exact ⟨y0, y1, y2, y3, y4, y5, y6, y7, y8, fun kn pm hk => y9 kn pm (kw_law _ kn pm hk)⟩
    rcases ite_opt h with ⟨rfl, e⟩ | h
    · cases e; obtain ⟨y0, y1, y2, y3, y4, y5, y6, y7, y8, y9⟩ := h__law_cell_at.mono (k := 12) (by decide); exact ⟨y0, y1, y2, y3, y4, y5, y6, y7, y8, fun kn pm hk => y9 kn pm (kw_law _ kn pm hk)⟩
    rcases ite_opt h with ⟨rfl, e⟩ | h
    · cases e; obtain ⟨y0, y1, y2, y3, y4, y5, y6, y7, y8, y9⟩ := h__law_rings_right.mono (k := 12) (by decide); exact ⟨y0, y1, y2, y3, y4, y5, y6, y7, y8, fun kn pm hk => y9 kn pm (kw_law _ kn pm hk)⟩
    rcases ite_opt h with ⟨rfl, e⟩ | h
    · cases e; obtain ⟨y0, y1, y2, y3, y4, y5, y6, y7, y8, y9⟩ := h__law_shores_right.mono (k := 12) (by decide); exact ⟨y0, y1, y2, y3, y4, y5, y6, y7, y8, fun kn pm hk => y9 kn pm (kw_law _ kn pm hk)⟩
    rcases ite_opt h with ⟨rfl, e⟩ | h
    · cases e; obtain ⟨y0, y1, y2, y3, y4, y5, y6, y7, y8, y9⟩ := h__law_two_right.mono (k := 12) (by decide); exact ⟨y0, y1, y2, y3, y4, y5, y6, y7, y8, fun kn pm hk => y9 kn pm (kw_law _ kn pm hk)⟩
    cases h), gd.ec, gd.cs, gd.ds, gd.fr⟩
  exact def_is a.fu S_law M rfl rfl rfl 60 60 F_law rfl (fun ds _ => .inr (by rw [e_law]; rfl))
end
set_option maxHeartbeats 0 in
theorem all_mk {l : PySem.W.OpenLaw} {w : World} {K : Fg} {h : Heap} {mg : Mg} {fa : Addr} (X : K.In h) (G : h.Ns mainGlobals mg) (hfa : mg "law" = some (.ref fa))
    {f0 : Addr} {od0 an0 : Option Addr} {sl0 : Array (Option Value)} {oc0 kV0 dc0 pm0 cd0 ct0 : Value}
    {f1 : Addr} {od1 an1 : Option Addr} {sl1 : Array (Option Value)} {oc1 kV1 dc1 pm1 cd1 ct1 : Value}
    {f2 : Addr} {od2 an2 : Option Addr} {sl2 : Array (Option Value)} {oc2 kV2 dc2 pm2 cd2 ct2 : Value}
    {f3 : Addr} {od3 an3 : Option Addr} {sl3 : Array (Option Value)} {oc3 kV3 dc3 pm3 cd3 ct3 : Value}
    {f4 : Addr} {od4 an4 : Option Addr} {sl4 : Array (Option Value)} {oc4 kV4 dc4 pm4 cd4 ct4 : Value}
    {f5 : Addr} {od5 an5 : Option Addr} {sl5 : Array (Option Value)} {oc5 kV5 dc5 pm5 cd5 ct5 : Value}
    {f6 : Addr} {od6 an6 : Option Addr} {sl6 : Array (Option Value)} {oc6 kV6 dc6 pm6 cd6 ct6 : Value}
    {f7 : Addr} {od7 an7 : Option Addr} {sl7 : Array (Option Value)} {oc7 kV7 dc7 pm7 cd7 ct7 : Value}
    {f8 : Addr} {od8 an8 : Option Addr} {sl8 : Array (Option Value)} {oc8 kV8 dc8 pm8 cd8 ct8 : Value}
    {f9 : Addr} {od9 an9 : Option Addr} {sl9 : Array (Option Value)} {oc9 kV9 dc9 pm9 cd9 ct9 : Value}
    {f10 : Addr} {od10 an10 : Option Addr} {sl10 : Array (Option Value)} {oc10 kV10 dc10 pm10 cd10 ct10 : Value}
    {f11 : Addr} {od11 an11 : Option Addr} {sl11 : Array (Option Value)} {oc11 kV11 dc11 pm11 cd11 ct11 : Value}
    {f12 : Addr} {od12 an12 : Option Addr} {sl12 : Array (Option Value)} {oc12 kV12 dc12 pm12 cd12 ct12 : Value}
    {f13 : Addr} {od13 an13 : Option Addr} {sl13 : Array (Option Value)} {oc13 kV13 dc13 pm13 cd13 ct13 : Value}
    {f14 : Addr} {od14 an14 : Option Addr} {sl14 : Array (Option Value)} {oc14 kV14 dc14 pm14 cd14 ct14 : Value}
    {f15 : Addr} {od15 an15 : Option Addr} {sl15 : Array (Option Value)} {oc15 kV15 dc15 pm15 cd15 ct15 : Value}
    {f16 : Addr} {od16 an16 : Option Addr} {sl16 : Array (Option Value)} {oc16 kV16 dc16 pm16 cd16 ct16 : Value}
    {f17 : Addr} {od17 an17 : Option Addr} {sl17 : Array (Option Value)} {oc17 kV17 dc17 pm17 cd17 ct17 : Value}
    {f18 : Addr} {od18 an18 : Option Addr} {sl18 : Array (Option Value)} {oc18 kV18 dc18 pm18 cd18 ct18 : Value}
    {f19 : Addr} {od19 an19 : Option Addr} {sl19 : Array (Option Value)} {oc19 kV19 dc19 pm19 cd19 ct19 : Value}
    {f20 : Addr} {od20 an20 : Option Addr} {sl20 : Array (Option Value)} {oc20 kV20 dc20 pm20 cd20 ct20 : Value}
    {f21 : Addr} {od21 an21 : Option Addr} {sl21 : Array (Option Value)} {oc21 kV21 dc21 pm21 cd21 ct21 : Value}
    {f22 : Addr} {od22 an22 : Option Addr} {sl22 : Array (Option Value)} {oc22 kV22 dc22 pm22 cd22 ct22 : Value}
    {f23 : Addr} {od23 an23 : Option Addr} {sl23 : Array (Option Value)} {oc23 kV23 dc23 pm23 cd23 ct23 : Value}
    {f24 : Addr} {od24 an24 : Option Addr} {sl24 : Array (Option Value)} {oc24 kV24 dc24 pm24 cd24 ct24 : Value}
    {f25 : Addr} {od25 an25 : Option Addr} {sl25 : Array (Option Value)} {oc25 kV25 dc25 pm25 cd25 ct25 : Value}
    {f26 : Addr} {od26 an26 : Option Addr} {sl26 : Array (Option Value)} {oc26 kV26 dc26 pm26 cd26 ct26 : Value}
    {f27 : Addr} {od27 an27 : Option Addr} {sl27 : Array (Option Value)} {oc27 kV27 dc27 pm27 cd27 ct27 : Value}
    {f28 : Addr} {od28 an28 : Option Addr} {sl28 : Array (Option Value)} {oc28 kV28 dc28 pm28 cd28 ct28 : Value}
    {f29 : Addr} {od29 an29 : Option Addr} {sl29 : Array (Option Value)} {oc29 kV29 dc29 pm29 cd29 ct29 : Value}
    {f30 : Addr} {od30 an30 : Option Addr} {sl30 : Array (Option Value)} {oc30 kV30 dc30 pm30 cd30 ct30 : Value}
    {f31 : Addr} {od31 an31 : Option Addr} {sl31 : Array (Option Value)} {oc31 kV31 dc31 pm31 cd31 ct31 : Value}
    {f32 : Addr} {od32 an32 : Option Addr} {sl32 : Array (Option Value)} {oc32 kV32 dc32 pm32 cd32 ct32 : Value}
    {f33 : Addr} {od33 an33 : Option Addr} {sl33 : Array (Option Value)} {oc33 kV33 dc33 pm33 cd33 ct33 : Value}
    {f34 : Addr} {od34 an34 : Option Addr} {sl34 : Array (Option Value)} {oc34 kV34 dc34 pm34 cd34 ct34 : Value}
    {f35 : Addr} {od35 an35 : Option Addr} {sl35 : Array (Option Value)} {oc35 kV35 dc35 pm35 cd35 ct35 : Value}
    {f36 : Addr} {od36 an36 : Option Addr} {sl36 : Array (Option Value)} {oc36 kV36 dc36 pm36 cd36 ct36 : Value}
    {f37 : Addr} {od37 an37 : Option Addr} {sl37 : Array (Option Value)} {oc37 kV37 dc37 pm37 cd37 ct37 : Value}
    {f38 : Addr} {od38 an38 : Option Addr} {sl38 : Array (Option Value)} {oc38 kV38 dc38 pm38 cd38 ct38 : Value}
    {f39 : Addr} {od39 an39 : Option Addr} {sl39 : Array (Option Value)} {oc39 kV39 dc39 pm39 cd39 ct39 : Value}
    {f40 : Addr} {od40 an40 : Option Addr} {sl40 : Array (Option Value)} {oc40 kV40 dc40 pm40 cd40 ct40 : Value}
    {f41 : Addr} {od41 an41 : Option Addr} {sl41 : Array (Option Value)} {oc41 kV41 dc41 pm41 cd41 ct41 : Value}
    {f42 : Addr} {od42 an42 : Option Addr} {sl42 : Array (Option Value)} {oc42 kV42 dc42 pm42 cd42 ct42 : Value}
    {f43 : Addr} {od43 an43 : Option Addr} {sl43 : Array (Option Value)} {oc43 kV43 dc43 pm43 cd43 ct43 : Value}
    {f44 : Addr} {od44 an44 : Option Addr} {sl44 : Array (Option Value)} {oc44 kV44 dc44 pm44 cd44 ct44 : Value}
    {f45 : Addr} {od45 an45 : Option Addr} {sl45 : Array (Option Value)} {oc45 kV45 dc45 pm45 cd45 ct45 : Value}
    {f46 : Addr} {od46 an46 : Option Addr} {sl46 : Array (Option Value)} {oc46 kV46 dc46 pm46 cd46 ct46 : Value}
    {f47 : Addr} {od47 an47 : Option Addr} {sl47 : Array (Option Value)} {oc47 kV47 dc47 pm47 cd47 ct47 : Value}
    {f48 : Addr} {od48 an48 : Option Addr} {sl48 : Array (Option Value)} {oc48 kV48 dc48 pm48 cd48 ct48 : Value}
    {f49 : Addr} {od49 an49 : Option Addr} {sl49 : Array (Option Value)} {oc49 kV49 dc49 pm49 cd49 ct49 : Value}
    {f50 : Addr} {od50 an50 : Option Addr} {sl50 : Array (Option Value)} {oc50 kV50 dc50 pm50 cd50 ct50 : Value}
    {f51 : Addr} {od51 an51 : Option Addr} {sl51 : Array (Option Value)} {oc51 kV51 dc51 pm51 cd51 ct51 : Value}
    {f52 : Addr} {od52 an52 : Option Addr} {sl52 : Array (Option Value)} {oc52 kV52 dc52 pm52 cd52 ct52 : Value}
    {f53 : Addr} {od53 an53 : Option Addr} {sl53 : Array (Option Value)} {oc53 kV53 dc53 pm53 cd53 ct53 : Value}
    {f54 : Addr} {od54 an54 : Option Addr} {sl54 : Array (Option Value)} {oc54 kV54 dc54 pm54 cd54 ct54 : Value}
    {f55 : Addr} {od55 an55 : Option Addr} {sl55 : Array (Option Value)} {oc55 kV55 dc55 pm55 cd55 ct55 : Value}
    {f56 : Addr} {od56 an56 : Option Addr} {sl56 : Array (Option Value)} {oc56 kV56 dc56 pm56 cd56 ct56 : Value}
    {x0 : Addr}
    {u0 : Tok}
    {u1 : Tok}
    (a0 : PySem.W.nsIn K mainGlobals "is_whole" = some (some (.ref f0))) (l0 : K.lookup f0 = some ⟨oc0, od0, .func (PySem.W.fnOf "is_whole" "is_whole" (defArgs s_is_whole) (defBody s_is_whole) (defScope s_is_whole) .none kV0 dc0 pm0 an0 cd0 ct0), sl0⟩) (c0 : PySem.W.codeIn K cd0 "is_whole" = true) (k0 : PySem.W.keepIn K (.ref f0) = true)
    (a1 : PySem.W.nsIn K mainGlobals "is_below" = some (some (.ref f1))) (l1 : K.lookup f1 = some ⟨oc1, od1, .func (PySem.W.fnOf "is_below" "is_below" (defArgs s_is_below) (defBody s_is_below) (defScope s_is_below) .none kV1 dc1 pm1 an1 cd1 ct1), sl1⟩) (c1 : PySem.W.codeIn K cd1 "is_below" = true) (k1 : PySem.W.keepIn K (.ref f1) = true)
    (a2 : PySem.W.nsIn K mainGlobals "is_pair" = some (some (.ref f2))) (l2 : K.lookup f2 = some ⟨oc2, od2, .func (PySem.W.fnOf "is_pair" "is_pair" (defArgs s_is_pair) (defBody s_is_pair) (defScope s_is_pair) .none kV2 dc2 pm2 an2 cd2 ct2), sl2⟩) (c2 : PySem.W.codeIn K cd2 "is_pair" = true) (k2 : PySem.W.keepIn K (.ref f2) = true)
    (a3 : PySem.W.nsIn K mainGlobals "is_triple" = some (some (.ref f3))) (l3 : K.lookup f3 = some ⟨oc3, od3, .func (PySem.W.fnOf "is_triple" "is_triple" (defArgs s_is_triple) (defBody s_is_triple) (defScope s_is_triple) .none kV3 dc3 pm3 an3 cd3 ct3), sl3⟩) (c3 : PySem.W.codeIn K cd3 "is_triple" = true) (k3 : PySem.W.keepIn K (.ref f3) = true)
    (a4 : PySem.W.nsIn K mainGlobals "is_street" = some (some (.ref f4))) (l4 : K.lookup f4 = some ⟨oc4, od4, .func (PySem.W.fnOf "is_street" "is_street" (defArgs s_is_street) (defBody s_is_street) (defScope s_is_street) .none kV4 dc4 pm4 an4 cd4 ct4), sl4⟩) (c4 : PySem.W.codeIn K cd4 "is_street" = true) (k4 : PySem.W.keepIn K (.ref f4) = true)
    (a5 : PySem.W.nsIn K mainGlobals "are_streets" = some (some (.ref f5))) (l5 : K.lookup f5 = some ⟨oc5, od5, .func (PySem.W.fnOf "are_streets" "are_streets" (defArgs s_are_streets) (defBody s_are_streets) (defScope s_are_streets) .none kV5 dc5 pm5 an5 cd5 ct5), sl5⟩) (c5 : PySem.W.codeIn K cd5 "are_streets" = true) (k5 : PySem.W.keepIn K (.ref f5) = true)
    (a6 : PySem.W.nsIn K mainGlobals "ways_from" = some (some (.ref f6))) (l6 : K.lookup f6 = some ⟨oc6, od6, .func (PySem.W.fnOf "ways_from" "ways_from" (defArgs s_ways_from) (defBody s_ways_from) (defScope s_ways_from) .none kV6 dc6 pm6 an6 cd6 ct6), sl6⟩) (c6 : PySem.W.codeIn K cd6 "ways_from" = true) (k6 : PySem.W.keepIn K (.ref f6) = true)
    (a7 : PySem.W.nsIn K mainGlobals "towns_from" = some (some (.ref f7))) (l7 : K.lookup f7 = some ⟨oc7, od7, .func (PySem.W.fnOf "towns_from" "towns_from" (defArgs s_towns_from) (defBody s_towns_from) (defScope s_towns_from) .none kV7 dc7 pm7 an7 cd7 ct7), sl7⟩) (c7 : PySem.W.codeIn K cd7 "towns_from" = true) (k7 : PySem.W.keepIn K (.ref f7) = true)
    (a8 : PySem.W.nsIn K mainGlobals "both_ways" = some (some (.ref f8))) (l8 : K.lookup f8 = some ⟨oc8, od8, .func (PySem.W.fnOf "both_ways" "both_ways" (defArgs s_both_ways) (defBody s_both_ways) (defScope s_both_ways) .none kV8 dc8 pm8 an8 cd8 ct8), sl8⟩) (c8 : PySem.W.codeIn K cd8 "both_ways" = true) (k8 : PySem.W.keepIn K (.ref f8) = true)
    (a9 : PySem.W.nsIn K mainGlobals "hang_together" = some (some (.ref f9))) (l9 : K.lookup f9 = some ⟨oc9, od9, .func (PySem.W.fnOf "hang_together" "hang_together" (defArgs s_hang_together) (defBody s_hang_together) (defScope s_hang_together) .none kV9 dc9 pm9 an9 cd9 ct9), sl9⟩) (c9 : PySem.W.codeIn K cd9 "hang_together" = true) (k9 : PySem.W.keepIn K (.ref f9) = true)
    (a10 : PySem.W.nsIn K mainGlobals "is_plan" = some (some (.ref f10))) (l10 : K.lookup f10 = some ⟨oc10, od10, .func (PySem.W.fnOf "is_plan" "is_plan" (defArgs s_is_plan) (defBody s_is_plan) (defScope s_is_plan) .none kV10 dc10 pm10 an10 cd10 ct10), sl10⟩) (c10 : PySem.W.codeIn K cd10 "is_plan" = true) (k10 : PySem.W.keepIn K (.ref f10) = true)
    (a11 : PySem.W.nsIn K mainGlobals "need_plan" = some (some (.ref f11))) (l11 : K.lookup f11 = some ⟨oc11, od11, .func (PySem.W.fnOf "need_plan" "need_plan" (defArgs s_need_plan) (defBody s_need_plan) (defScope s_need_plan) .none kV11 dc11 pm11 an11 cd11 ct11), sl11⟩) (c11 : PySem.W.codeIn K cd11 "need_plan" = true) (k11 : PySem.W.keepIn K (.ref f11) = true)
    (a12 : PySem.W.nsIn K mainGlobals "is_signing" = some (some (.ref f12))) (l12 : K.lookup f12 = some ⟨oc12, od12, .func (PySem.W.fnOf "is_signing" "is_signing" (defArgs s_is_signing) (defBody s_is_signing) (defScope s_is_signing) .none kV12 dc12 pm12 an12 cd12 ct12), sl12⟩) (c12 : PySem.W.codeIn K cd12 "is_signing" = true) (k12 : PySem.W.keepIn K (.ref f12) = true)
    (a13 : PySem.W.nsIn K mainGlobals "need_signing" = some (some (.ref f13))) (l13 : K.lookup f13 = some ⟨oc13, od13, .func (PySem.W.fnOf "need_signing" "need_signing" (defArgs s_need_signing) (defBody s_need_signing) (defScope s_need_signing) .none kV13 dc13 pm13 an13 cd13 ct13), sl13⟩) (c13 : PySem.W.codeIn K cd13 "need_signing" = true) (k13 : PySem.W.keepIn K (.ref f13) = true)
    (a14 : PySem.W.nsIn K mainGlobals "need_signings" = some (some (.ref f14))) (l14 : K.lookup f14 = some ⟨oc14, od14, .func (PySem.W.fnOf "need_signings" "need_signings" (defArgs s_need_signings) (defBody s_need_signings) (defScope s_need_signings) .none kV14 dc14 pm14 an14 cd14 ct14), sl14⟩) (c14 : PySem.W.codeIn K cd14 "need_signings" = true) (k14 : PySem.W.keepIn K (.ref f14) = true)
    (a15 : PySem.W.nsIn K mainGlobals "paths_of" = some (some (.ref f15))) (l15 : K.lookup f15 = some ⟨oc15, od15, .func (PySem.W.fnOf "paths_of" "paths_of" (defArgs s_paths_of) (defBody s_paths_of) (defScope s_paths_of) .none kV15 dc15 pm15 an15 cd15 ct15), sl15⟩) (c15 : PySem.W.codeIn K cd15 "paths_of" = true) (k15 : PySem.W.keepIn K (.ref f15) = true)
    (a16 : PySem.W.nsIn K mainGlobals "outs_of" = some (some (.ref f16))) (l16 : K.lookup f16 = some ⟨oc16, od16, .func (PySem.W.fnOf "outs_of" "outs_of" (defArgs s_outs_of) (defBody s_outs_of) (defScope s_outs_of) .none kV16 dc16 pm16 an16 cd16 ct16), sl16⟩) (c16 : PySem.W.codeIn K cd16 "outs_of" = true) (k16 : PySem.W.keepIn K (.ref f16) = true)
    (a17 : PySem.W.nsIn K mainGlobals "outs" = some (some (.ref f17))) (l17 : K.lookup f17 = some ⟨oc17, od17, .func (PySem.W.fnOf "outs" "outs" (defArgs s_outs) (defBody s_outs) (defScope s_outs) .none kV17 dc17 pm17 an17 cd17 ct17), sl17⟩) (c17 : PySem.W.codeIn K cd17 "outs" = true) (k17 : PySem.W.keepIn K (.ref f17) = true)
    (a18 : PySem.W.nsIn K mainGlobals "is_rising" = some (some (.ref f18))) (l18 : K.lookup f18 = some ⟨oc18, od18, .func (PySem.W.fnOf "is_rising" "is_rising" (defArgs s_is_rising) (defBody s_is_rising) (defScope s_is_rising) .none kV18 dc18 pm18 an18 cd18 ct18), sl18⟩) (c18 : PySem.W.codeIn K cd18 "is_rising" = true) (k18 : PySem.W.keepIn K (.ref f18) = true)
    (a19 : PySem.W.nsIn K mainGlobals "lead_round" = some (some (.ref f19))) (l19 : K.lookup f19 = some ⟨oc19, od19, .func (PySem.W.fnOf "lead_round" "lead_round" (defArgs s_lead_round) (defBody s_lead_round) (defScope s_lead_round) .none kV19 dc19 pm19 an19 cd19 ct19), sl19⟩) (c19 : PySem.W.codeIn K cd19 "lead_round" = true) (k19 : PySem.W.keepIn K (.ref f19) = true)
    (a20 : PySem.W.nsIn K mainGlobals "is_ring" = some (some (.ref f20))) (l20 : K.lookup f20 = some ⟨oc20, od20, .func (PySem.W.fnOf "is_ring" "is_ring" (defArgs s_is_ring) (defBody s_is_ring) (defScope s_is_ring) .none kV20 dc20 pm20 an20 cd20 ct20), sl20⟩) (c20 : PySem.W.codeIn K cd20 "is_ring" = true) (k20 : PySem.W.keepIn K (.ref f20) = true)
    (a21 : PySem.W.nsIn K mainGlobals "lead_out" = some (some (.ref f21))) (l21 : K.lookup f21 = some ⟨oc21, od21, .func (PySem.W.fnOf "lead_out" "lead_out" (defArgs s_lead_out) (defBody s_lead_out) (defScope s_lead_out) .none kV21 dc21 pm21 an21 cd21 ct21), sl21⟩) (c21 : PySem.W.codeIn K cd21 "lead_out" = true) (k21 : PySem.W.keepIn K (.ref f21) = true)
    (a22 : PySem.W.nsIn K mainGlobals "is_part" = some (some (.ref f22))) (l22 : K.lookup f22 = some ⟨oc22, od22, .func (PySem.W.fnOf "is_part" "is_part" (defArgs s_is_part) (defBody s_is_part) (defScope s_is_part) .none kV22 dc22 pm22 an22 cd22 ct22), sl22⟩) (c22 : PySem.W.codeIn K cd22 "is_part" = true) (k22 : PySem.W.keepIn K (.ref f22) = true)
    (a23 : PySem.W.nsIn K mainGlobals "is_shore" = some (some (.ref f23))) (l23 : K.lookup f23 = some ⟨oc23, od23, .func (PySem.W.fnOf "is_shore" "is_shore" (defArgs s_is_shore) (defBody s_is_shore) (defScope s_is_shore) .none kV23 dc23 pm23 an23 cd23 ct23), sl23⟩) (c23 : PySem.W.codeIn K cd23 "is_shore" = true) (k23 : PySem.W.keepIn K (.ref f23) = true)
    (a24 : PySem.W.nsIn K mainGlobals "is_turn" = some (some (.ref f24))) (l24 : K.lookup f24 = some ⟨oc24, od24, .func (PySem.W.fnOf "is_turn" "is_turn" (defArgs s_is_turn) (defBody s_is_turn) (defScope s_is_turn) .none kV24 dc24 pm24 an24 cd24 ct24), sl24⟩) (c24 : PySem.W.codeIn K cd24 "is_turn" = true) (k24 : PySem.W.keepIn K (.ref f24) = true)
    (a25 : PySem.W.nsIn K mainGlobals "is_led_otherwise" = some (some (.ref f25))) (l25 : K.lookup f25 = some ⟨oc25, od25, .func (PySem.W.fnOf "is_led_otherwise" "is_led_otherwise" (defArgs s_is_led_otherwise) (defBody s_is_led_otherwise) (defScope s_is_led_otherwise) .none kV25 dc25 pm25 an25 cd25 ct25), sl25⟩) (c25 : PySem.W.codeIn K cd25 "is_led_otherwise" = true) (k25 : PySem.W.keepIn K (.ref f25) = true)
    (a26 : PySem.W.nsIn K mainGlobals "signing_behind_turn" = some (some (.ref f26))) (l26 : K.lookup f26 = some ⟨oc26, od26, .func (PySem.W.fnOf "signing_behind_turn" "signing_behind_turn" (defArgs s_signing_behind_turn) (defBody s_signing_behind_turn) (defScope s_signing_behind_turn) .none kV26 dc26 pm26 an26 cd26 ct26), sl26⟩) (c26 : PySem.W.codeIn K cd26 "signing_behind_turn" = true) (k26 : PySem.W.keepIn K (.ref f26) = true)
    (a27 : PySem.W.nsIn K mainGlobals "signing_behind_row" = some (some (.ref f27))) (l27 : K.lookup f27 = some ⟨oc27, od27, .func (PySem.W.fnOf "signing_behind_row" "signing_behind_row" (defArgs s_signing_behind_row) (defBody s_signing_behind_row) (defScope s_signing_behind_row) .none kV27 dc27 pm27 an27 cd27 ct27), sl27⟩) (c27 : PySem.W.codeIn K cd27 "signing_behind_row" = true) (k27 : PySem.W.keepIn K (.ref f27) = true)
    (a28 : PySem.W.nsIn K mainGlobals "leads_there" = some (some (.ref f28))) (l28 : K.lookup f28 = some ⟨oc28, od28, .func (PySem.W.fnOf "leads_there" "leads_there" (defArgs s_leads_there) (defBody s_leads_there) (defScope s_leads_there) .none kV28 dc28 pm28 an28 cd28 ct28), sl28⟩) (c28 : PySem.W.codeIn K cd28 "leads_there" = true) (k28 : PySem.W.keepIn K (.ref f28) = true)
    (a29 : PySem.W.nsIn K mainGlobals "steps_from" = some (some (.ref f29))) (l29 : K.lookup f29 = some ⟨oc29, od29, .func (PySem.W.fnOf "steps_from" "steps_from" (defArgs s_steps_from) (defBody s_steps_from) (defScope s_steps_from) .none kV29 dc29 pm29 an29 cd29 ct29), sl29⟩) (c29 : PySem.W.codeIn K cd29 "steps_from" = true) (k29 : PySem.W.keepIn K (.ref f29) = true)
    (a30 : PySem.W.nsIn K mainGlobals "steps_of" = some (some (.ref f30))) (l30 : K.lookup f30 = some ⟨oc30, od30, .func (PySem.W.fnOf "steps_of" "steps_of" (defArgs s_steps_of) (defBody s_steps_of) (defScope s_steps_of) .none kV30 dc30 pm30 an30 cd30 ct30), sl30⟩) (c30 : PySem.W.codeIn K cd30 "steps_of" = true) (k30 : PySem.W.keepIn K (.ref f30) = true)
    (a31 : PySem.W.nsIn K mainGlobals "lead_of" = some (some (.ref f31))) (l31 : K.lookup f31 = some ⟨oc31, od31, .func (PySem.W.fnOf "lead_of" "lead_of" (defArgs s_lead_of) (defBody s_lead_of) (defScope s_lead_of) .none kV31 dc31 pm31 an31 cd31 ct31), sl31⟩) (c31 : PySem.W.codeIn K cd31 "lead_of" = true) (k31 : PySem.W.keepIn K (.ref f31) = true)
    (a32 : PySem.W.nsIn K mainGlobals "lead" = some (some (.ref f32))) (l32 : K.lookup f32 = some ⟨oc32, od32, .func (PySem.W.fnOf "lead" "lead" (defArgs s_lead) (defBody s_lead) (defScope s_lead) .none kV32 dc32 pm32 an32 cd32 ct32), sl32⟩) (c32 : PySem.W.codeIn K cd32 "lead" = true) (k32 : PySem.W.keepIn K (.ref f32) = true)
    (a33 : PySem.W.nsIn K mainGlobals "ways_to_towns" = some (some (.ref f33))) (l33 : K.lookup f33 = some ⟨oc33, od33, .func (PySem.W.fnOf "ways_to_towns" "ways_to_towns" (defArgs s_ways_to_towns) (defBody s_ways_to_towns) (defScope s_ways_to_towns) .none kV33 dc33 pm33 an33 cd33 ct33), sl33⟩) (c33 : PySem.W.codeIn K cd33 "ways_to_towns" = true) (k33 : PySem.W.keepIn K (.ref f33) = true)
    (a34 : PySem.W.nsIn K mainGlobals "climb" = some (some (.ref f34))) (l34 : K.lookup f34 = some ⟨oc34, od34, .func (PySem.W.fnOf "climb" "climb" (defArgs s_climb) (defBody s_climb) (defScope s_climb) .none kV34 dc34 pm34 an34 cd34 ct34), sl34⟩) (c34 : PySem.W.codeIn K cd34 "climb" = true) (k34 : PySem.W.keepIn K (.ref f34) = true)
    (a35 : PySem.W.nsIn K mainGlobals "levels_between" = some (some (.ref f35))) (l35 : K.lookup f35 = some ⟨oc35, od35, .func (PySem.W.fnOf "levels_between" "levels_between" (defArgs s_levels_between) (defBody s_levels_between) (defScope s_levels_between) .none kV35 dc35 pm35 an35 cd35 ct35), sl35⟩) (c35 : PySem.W.codeIn K cd35 "levels_between" = true) (k35 : PySem.W.keepIn K (.ref f35) = true)
    (a36 : PySem.W.nsIn K mainGlobals "unfit_streets" = some (some (.ref f36))) (l36 : K.lookup f36 = some ⟨oc36, od36, .func (PySem.W.fnOf "unfit_streets" "unfit_streets" (defArgs s_unfit_streets) (defBody s_unfit_streets) (defScope s_unfit_streets) .none kV36 dc36 pm36 an36 cd36 ct36), sl36⟩) (c36 : PySem.W.codeIn K cd36 "unfit_streets" = true) (k36 : PySem.W.keepIn K (.ref f36) = true)
    (a37 : PySem.W.nsIn K mainGlobals "heights" = some (some (.ref f37))) (l37 : K.lookup f37 = some ⟨oc37, od37, .func (PySem.W.fnOf "heights" "heights" (defArgs s_heights) (defBody s_heights) (defScope s_heights) .none kV37 dc37 pm37 an37 cd37 ct37), sl37⟩) (c37 : PySem.W.codeIn K cd37 "heights" = true) (k37 : PySem.W.keepIn K (.ref f37) = true)
    (a38 : PySem.W.nsIn K mainGlobals "towns_up_to" = some (some (.ref f38))) (l38 : K.lookup f38 = some ⟨oc38, od38, .func (PySem.W.fnOf "towns_up_to" "towns_up_to" (defArgs s_towns_up_to) (defBody s_towns_up_to) (defScope s_towns_up_to) .none kV38 dc38 pm38 an38 cd38 ct38), sl38⟩) (c38 : PySem.W.codeIn K cd38 "towns_up_to" = true) (k38 : PySem.W.keepIn K (.ref f38) = true)
    (a39 : PySem.W.nsIn K mainGlobals "shores_up" = some (some (.ref f39))) (l39 : K.lookup f39 = some ⟨oc39, od39, .func (PySem.W.fnOf "shores_up" "shores_up" (defArgs s_shores_up) (defBody s_shores_up) (defScope s_shores_up) .none kV39 dc39 pm39 an39 cd39 ct39), sl39⟩) (c39 : PySem.W.codeIn K cd39 "shores_up" = true) (k39 : PySem.W.keepIn K (.ref f39) = true)
    (a40 : PySem.W.nsIn K mainGlobals "streets_round" = some (some (.ref f40))) (l40 : K.lookup f40 = some ⟨oc40, od40, .func (PySem.W.fnOf "streets_round" "streets_round" (defArgs s_streets_round) (defBody s_streets_round) (defScope s_streets_round) .none kV40 dc40 pm40 an40 cd40 ct40), sl40⟩) (c40 : PySem.W.codeIn K cd40 "streets_round" = true) (k40 : PySem.W.keepIn K (.ref f40) = true)
    (a41 : PySem.W.nsIn K mainGlobals "by_shores" = some (some (.ref f41))) (l41 : K.lookup f41 = some ⟨oc41, od41, .func (PySem.W.fnOf "by_shores" "by_shores" (defArgs s_by_shores) (defBody s_by_shores) (defScope s_by_shores) .none kV41 dc41 pm41 an41 cd41 ct41), sl41⟩) (c41 : PySem.W.codeIn K cd41 "by_shores" = true) (k41 : PySem.W.keepIn K (.ref f41) = true)
    (a42 : PySem.W.nsIn K mainGlobals "is_unlike_round" = some (some (.ref f42))) (l42 : K.lookup f42 = some ⟨oc42, od42, .func (PySem.W.fnOf "is_unlike_round" "is_unlike_round" (defArgs s_is_unlike_round) (defBody s_is_unlike_round) (defScope s_is_unlike_round) .none kV42 dc42 pm42 an42 cd42 ct42), sl42⟩) (c42 : PySem.W.codeIn K cd42 "is_unlike_round" = true) (k42 : PySem.W.keepIn K (.ref f42) = true)
    (a43 : PySem.W.nsIn K mainGlobals "shows_by_shores" = some (some (.ref f43))) (l43 : K.lookup f43 = some ⟨oc43, od43, .func (PySem.W.fnOf "shows_by_shores" "shows_by_shores" (defArgs s_shows_by_shores) (defBody s_shows_by_shores) (defScope s_shows_by_shores) .none kV43 dc43 pm43 an43 cd43 ct43), sl43⟩) (c43 : PySem.W.codeIn K cd43 "shows_by_shores" = true) (k43 : PySem.W.keepIn K (.ref f43) = true)
    (a44 : PySem.W.nsIn K mainGlobals "ring_through" = some (some (.ref f44))) (l44 : K.lookup f44 = some ⟨oc44, od44, .func (PySem.W.fnOf "ring_through" "ring_through" (defArgs s_ring_through) (defBody s_ring_through) (defScope s_ring_through) .none kV44 dc44 pm44 an44 cd44 ct44), sl44⟩) (c44 : PySem.W.codeIn K cd44 "ring_through" = true) (k44 : PySem.W.keepIn K (.ref f44) = true)
    (a45 : PySem.W.nsIn K mainGlobals "unlike_places" = some (some (.ref f45))) (l45 : K.lookup f45 = some ⟨oc45, od45, .func (PySem.W.fnOf "unlike_places" "unlike_places" (defArgs s_unlike_places) (defBody s_unlike_places) (defScope s_unlike_places) .none kV45 dc45 pm45 an45 cd45 ct45), sl45⟩) (c45 : PySem.W.codeIn K cd45 "unlike_places" = true) (k45 : PySem.W.keepIn K (.ref f45) = true)
    (a46 : PySem.W.nsIn K mainGlobals "rings_between" = some (some (.ref f46))) (l46 : K.lookup f46 = some ⟨oc46, od46, .func (PySem.W.fnOf "rings_between" "rings_between" (defArgs s_rings_between) (defBody s_rings_between) (defScope s_rings_between) .none kV46 dc46 pm46 an46 cd46 ct46), sl46⟩) (c46 : PySem.W.codeIn K cd46 "rings_between" = true) (k46 : PySem.W.keepIn K (.ref f46) = true)
    (a47 : PySem.W.nsIn K mainGlobals "unlike_towns" = some (some (.ref f47))) (l47 : K.lookup f47 = some ⟨oc47, od47, .func (PySem.W.fnOf "unlike_towns" "unlike_towns" (defArgs s_unlike_towns) (defBody s_unlike_towns) (defScope s_unlike_towns) .none kV47 dc47 pm47 an47 cd47 ct47), sl47⟩) (c47 : PySem.W.codeIn K cd47 "unlike_towns" = true) (k47 : PySem.W.keepIn K (.ref f47) = true)
    (a48 : PySem.W.nsIn K mainGlobals "by_rings" = some (some (.ref f48))) (l48 : K.lookup f48 = some ⟨oc48, od48, .func (PySem.W.fnOf "by_rings" "by_rings" (defArgs s_by_rings) (defBody s_by_rings) (defScope s_by_rings) .none kV48 dc48 pm48 an48 cd48 ct48), sl48⟩) (c48 : PySem.W.codeIn K cd48 "by_rings" = true) (k48 : PySem.W.keepIn K (.ref f48) = true)
    (a49 : PySem.W.nsIn K mainGlobals "shows_by_rings" = some (some (.ref f49))) (l49 : K.lookup f49 = some ⟨oc49, od49, .func (PySem.W.fnOf "shows_by_rings" "shows_by_rings" (defArgs s_shows_by_rings) (defBody s_shows_by_rings) (defScope s_shows_by_rings) .none kV49 dc49 pm49 an49 cd49 ct49), sl49⟩) (c49 : PySem.W.codeIn K cd49 "shows_by_rings" = true) (k49 : PySem.W.keepIn K (.ref f49) = true)
    (a50 : PySem.W.nsIn K mainGlobals "_law_cell_at" = some (some (.ref f50))) (l50 : K.lookup f50 = some ⟨oc50, od50, .func (PySem.W.fnOf "_law_cell_at" "_law_cell_at" (defArgs s__law_cell_at) (defBody s__law_cell_at) (defScope s__law_cell_at) .none kV50 dc50 pm50 an50 cd50 ct50), sl50⟩) (c50 : PySem.W.codeIn K cd50 "_law_cell_at" = true) (k50 : PySem.W.keepIn K (.ref f50) = true)
    (a51 : PySem.W.nsIn K mainGlobals "_law_pen" = some (some (.ref f51))) (l51 : K.lookup f51 = some ⟨oc51, od51, .func (PySem.W.fnOf "_law_pen" "_law_pen" (defArgs s__law_pen) (defBody s__law_pen) (defScope s__law_pen) .none kV51 dc51 pm51 an51 cd51 ct51), sl51⟩) (c51 : PySem.W.codeIn K cd51 "_law_pen" = true) (k51 : PySem.W.keepIn K (.ref f51) = true)
    (a52 : PySem.W.nsIn K mainGlobals "_law_draw" = some (some (.ref f52))) (l52 : K.lookup f52 = some ⟨oc52, od52, .func (PySem.W.fnOf "_law_draw" "_law_draw" (defArgs s__law_draw) (defBody s__law_draw) (defScope s__law_draw) .none kV52 dc52 pm52 an52 cd52 ct52), sl52⟩) (c52 : PySem.W.codeIn K cd52 "_law_draw" = true) (k52 : PySem.W.keepIn K (.ref f52) = true)
    (a53 : PySem.W.nsIn K mainGlobals "_law_rings_right" = some (some (.ref f53))) (l53 : K.lookup f53 = some ⟨oc53, od53, .func (PySem.W.fnOf "_law_rings_right" "_law_rings_right" (defArgs s__law_rings_right) (defBody s__law_rings_right) (defScope s__law_rings_right) .none kV53 dc53 pm53 an53 cd53 ct53), sl53⟩) (c53 : PySem.W.codeIn K cd53 "_law_rings_right" = true) (k53 : PySem.W.keepIn K (.ref f53) = true)
    (a54 : PySem.W.nsIn K mainGlobals "_law_shores_right" = some (some (.ref f54))) (l54 : K.lookup f54 = some ⟨oc54, od54, .func (PySem.W.fnOf "_law_shores_right" "_law_shores_right" (defArgs s__law_shores_right) (defBody s__law_shores_right) (defScope s__law_shores_right) .none kV54 dc54 pm54 an54 cd54 ct54), sl54⟩) (c54 : PySem.W.codeIn K cd54 "_law_shores_right" = true) (k54 : PySem.W.keepIn K (.ref f54) = true)
    (a55 : PySem.W.nsIn K mainGlobals "_law_two_right" = some (some (.ref f55))) (l55 : K.lookup f55 = some ⟨oc55, od55, .func (PySem.W.fnOf "_law_two_right" "_law_two_right" (defArgs s__law_two_right) (defBody s__law_two_right) (defScope s__law_two_right) .none kV55 dc55 pm55 an55 cd55 ct55), sl55⟩) (c55 : PySem.W.codeIn K cd55 "_law_two_right" = true) (k55 : PySem.W.keepIn K (.ref f55) = true)
    (a56 : PySem.W.nsIn K mainGlobals "law" = some (some (.ref f56))) (l56 : K.lookup f56 = some ⟨oc56, od56, .func (PySem.W.fnOf "law" "law" (defArgs s_law) (defBody s_law) (defScope s_law) .none kV56 dc56 pm56 an56 cd56 ct56), sl56⟩) (c56 : PySem.W.codeIn K cd56 "law" = true) (k56 : PySem.W.keepIn K (.ref f56) = true)
    (z0 : PySem.W.nsIn K mainGlobals "all" = some none)
    (z1 : PySem.W.nsIn K mainGlobals "bool" = some none)
    (z2 : PySem.W.nsIn K mainGlobals "enumerate" = some none)
    (z3 : PySem.W.nsIn K mainGlobals "int" = some none)
    (z4 : PySem.W.nsIn K mainGlobals "isinstance" = some none)
    (z5 : PySem.W.nsIn K mainGlobals "len" = some none)
    (z6 : PySem.W.nsIn K mainGlobals "list" = some none)
    (z7 : PySem.W.nsIn K mainGlobals "max" = some none)
    (z8 : PySem.W.nsIn K mainGlobals "min" = some none)
    (z9 : PySem.W.nsIn K mainGlobals "range" = some none)
    (z10 : PySem.W.nsIn K mainGlobals "sorted" = some none)
    (z11 : PySem.W.nsIn K mainGlobals "sum" = some none)
    (z12 : PySem.W.nsIn K mainGlobals "tuple" = some none)
    (z13 : PySem.W.nsIn K mainGlobals "zip" = some none)
    (x0_ : PySem.W.nsIn K mainGlobals "ShoreError" = some (some (.ref x0)))
    (y0 : PySem.W.nsIn K mainGlobals "MOST_TOWNS" = some (some (.int 6 u0)))
    (y1 : PySem.W.nsIn K mainGlobals "MOST_STREETS" = some (some (.int 9 u1))) :
    ∃ fd : FuncData, (∀ (s : Shared) (v : Value), BindsTo s fd ⟨[v], []⟩ [("_law_script", v)]) ∧ ∀ base : Heap, (∃ o, base.get? sysModules = some o) → K.In base → base.Ns mainGlobals mg → FnG l.prog w K mg base 13 fa fd ["_law_script"] (spFn K mg 1 F_law) := by
  have e := hfa.symm.trans (PySem.W.mg_of X G a56)
  have e2 : f56 = fa := by cases e; rfl
  subst e2
  have T0 : At K mg "is_whole" s_is_whole p_is_whole f0 _ := ⟨fun_mk l0 c0 k0, (fun_mk (x := "is_whole") (qual := "is_whole") (st := s_is_whole) l0 c0 k0).binds fun _ _ _ _ _ _ us hl => match us, hl with | [_], _ => rfl, fun kn pm hk => (by
    simp only [kwT] at hk
    rcases ite_opt hk with ⟨⟨e, rfl⟩, rfl⟩ | hk
    · exact absurd e (by decide +kernel)
    rcases ite_opt hk with ⟨⟨e, rfl⟩, rfl⟩ | hk
    · exact absurd e (by decide +kernel)
    rcases ite_opt hk with ⟨⟨e, rfl⟩, rfl⟩ | hk
    · exact absurd e (by decide +kernel)
    rcases ite_opt hk with ⟨⟨e, rfl⟩, rfl⟩ | hk
    · exact absurd e (by decide +kernel)
    rcases ite_opt hk with ⟨⟨e, rfl⟩, rfl⟩ | hk
    · exact absurd e (by decide +kernel)
    rcases ite_opt hk with ⟨⟨e, rfl⟩, rfl⟩ | hk
    · exact absurd e (by decide +kernel)
    cases hk), PySem.W.mg_of X G a0⟩
  have T1 : At K mg "is_below" s_is_below p_is_below f1 _ := ⟨fun_mk l1 c1 k1, (fun_mk (x := "is_below") (qual := "is_below") (st := s_is_below) l1 c1 k1).binds fun _ _ _ _ _ _ us hl => match us, hl with | [_, _], _ => rfl, fun kn pm hk => (by
    simp only [kwT] at hk
    rcases ite_opt hk with ⟨⟨e, rfl⟩, rfl⟩ | hk
    · exact absurd e (by decide +kernel)
    rcases ite_opt hk with ⟨⟨e, rfl⟩, rfl⟩ | hk
    · exact absurd e (by decide +kernel)
    rcases ite_opt hk with ⟨⟨e, rfl⟩, rfl⟩ | hk
    · exact absurd e (by decide +kernel)
    rcases ite_opt hk with ⟨⟨e, rfl⟩, rfl⟩ | hk
    · exact absurd e (by decide +kernel)
    rcases ite_opt hk with ⟨⟨e, rfl⟩, rfl⟩ | hk
    · exact absurd e (by decide +kernel)
    rcases ite_opt hk with ⟨⟨e, rfl⟩, rfl⟩ | hk
    · exact absurd e (by decide +kernel)
    cases hk), PySem.W.mg_of X G a1⟩
  have T2 : At K mg "is_pair" s_is_pair p_is_pair f2 _ := ⟨fun_mk l2 c2 k2, (fun_mk (x := "is_pair") (qual := "is_pair") (st := s_is_pair) l2 c2 k2).binds fun _ _ _ _ _ _ us hl => match us, hl with | [_], _ => rfl, fun kn pm hk => (by
    simp only [kwT] at hk
    rcases ite_opt hk with ⟨⟨e, rfl⟩, rfl⟩ | hk
    · exact absurd e (by decide +kernel)
    rcases ite_opt hk with ⟨⟨e, rfl⟩, rfl⟩ | hk
    · exact absurd e (by decide +kernel)
    rcases ite_opt hk with ⟨⟨e, rfl⟩, rfl⟩ | hk
    · exact absurd e (by decide +kernel)
    rcases ite_opt hk with ⟨⟨e, rfl⟩, rfl⟩ | hk
    · exact absurd e (by decide +kernel)
    rcases ite_opt hk with ⟨⟨e, rfl⟩, rfl⟩ | hk
    · exact absurd e (by decide +kernel)
    rcases ite_opt hk with ⟨⟨e, rfl⟩, rfl⟩ | hk
    · exact absurd e (by decide +kernel)
    cases hk), PySem.W.mg_of X G a2⟩
  have T3 : At K mg "is_triple" s_is_triple p_is_triple f3 _ := ⟨fun_mk l3 c3 k3, (fun_mk (x := "is_triple") (qual := "is_triple") (st := s_is_triple) l3 c3 k3).binds fun _ _ _ _ _ _ us hl => match us, hl with | [_], _ => rfl, fun kn pm hk => (by
    simp only [kwT] at hk
    rcases ite_opt hk with ⟨⟨e, rfl⟩, rfl⟩ | hk
    · exact absurd e (by decide +kernel)
    rcases ite_opt hk with ⟨⟨e, rfl⟩, rfl⟩ | hk
    · exact absurd e (by decide +kernel)
    rcases ite_opt hk with ⟨⟨e, rfl⟩, rfl⟩ | hk
    · exact absurd e (by decide +kernel)
    rcases ite_opt hk with ⟨⟨e, rfl⟩, rfl⟩ | hk
    · exact absurd e (by decide +kernel)
    rcases ite_opt hk with ⟨⟨e, rfl⟩, rfl⟩ | hk
    · exact absurd e (by decide +kernel)
    rcases ite_opt hk with ⟨⟨e, rfl⟩, rfl⟩ | hk
    · exact absurd e (by decide +kernel)
    cases hk), PySem.W.mg_of X G a3⟩
  have T4 : At K mg "is_street" s_is_street p_is_street f4 _ := ⟨fun_mk l4 c4 k4, (fun_mk (x := "is_street") (qual := "is_street") (st := s_is_street) l4 c4 k4).binds fun _ _ _ _ _ _ us hl => match us, hl with | [_, _], _ => rfl, fun kn pm hk => (by
    simp only [kwT] at hk
    rcases ite_opt hk with ⟨⟨e, rfl⟩, rfl⟩ | hk
    · exact absurd e (by decide +kernel)
    rcases ite_opt hk with ⟨⟨e, rfl⟩, rfl⟩ | hk
    · exact absurd e (by decide +kernel)
    rcases ite_opt hk with ⟨⟨e, rfl⟩, rfl⟩ | hk
    · exact absurd e (by decide +kernel)
    rcases ite_opt hk with ⟨⟨e, rfl⟩, rfl⟩ | hk
    · exact absurd e (by decide +kernel)
    rcases ite_opt hk with ⟨⟨e, rfl⟩, rfl⟩ | hk
    · exact absurd e (by decide +kernel)
    rcases ite_opt hk with ⟨⟨e, rfl⟩, rfl⟩ | hk
    · exact absurd e (by decide +kernel)
    cases hk), PySem.W.mg_of X G a4⟩
  have T5 : At K mg "are_streets" s_are_streets p_are_streets f5 _ := ⟨fun_mk l5 c5 k5, (fun_mk (x := "are_streets") (qual := "are_streets") (st := s_are_streets) l5 c5 k5).binds fun _ _ _ _ _ _ us hl => match us, hl with | [_, _], _ => rfl, fun kn pm hk => (by
    simp only [kwT] at hk
    rcases ite_opt hk with ⟨⟨e, rfl⟩, rfl⟩ | hk
    · exact absurd e (by decide +kernel)
    rcases ite_opt hk with ⟨⟨e, rfl⟩, rfl⟩ | hk
    · exact absurd e (by decide +kernel)
    rcases ite_opt hk with ⟨⟨e, rfl⟩, rfl⟩ | hk
    · exact absurd e (by decide +kernel)
    rcases ite_opt hk with ⟨⟨e, rfl⟩, rfl⟩ | hk
    · exact absurd e (by decide +kernel)
    rcases ite_opt hk with ⟨⟨e, rfl⟩, rfl⟩ | hk
    · exact absurd e (by decide +kernel)
    rcases ite_opt hk with ⟨⟨e, rfl⟩, rfl⟩ | hk
    · exact absurd e (by decide +kernel)
    cases hk), PySem.W.mg_of X G a5⟩
  have T6 : At K mg "ways_from" s_ways_from p_ways_from f6 _ := ⟨fun_mk l6 c6 k6, (fun_mk (x := "ways_from") (qual := "ways_from") (st := s_ways_from) l6 c6 k6).binds fun _ _ _ _ _ _ us hl => match us, hl with | [_, _], _ => rfl, fun kn pm hk => (by
    simp only [kwT] at hk
    rcases ite_opt hk with ⟨⟨e, rfl⟩, rfl⟩ | hk
    · exact absurd e (by decide +kernel)
    rcases ite_opt hk with ⟨⟨e, rfl⟩, rfl⟩ | hk
    · exact absurd e (by decide +kernel)
    rcases ite_opt hk with ⟨⟨e, rfl⟩, rfl⟩ | hk
    · exact absurd e (by decide +kernel)
    rcases ite_opt hk with ⟨⟨e, rfl⟩, rfl⟩ | hk
    · exact absurd e (by decide +kernel)
    rcases ite_opt hk with ⟨⟨e, rfl⟩, rfl⟩ | hk
    · exact absurd e (by decide +kernel)
    rcases ite_opt hk with ⟨⟨e, rfl⟩, rfl⟩ | hk
    · exact absurd e (by decide +kernel)
    cases hk), PySem.W.mg_of X G a6⟩
  have T7 : At K mg "towns_from" s_towns_from p_towns_from f7 _ := ⟨fun_mk l7 c7 k7, (fun_mk (x := "towns_from") (qual := "towns_from") (st := s_towns_from) l7 c7 k7).binds fun _ _ _ _ _ _ us hl => match us, hl with | [_, _], _ => rfl, fun kn pm hk => (by
    simp only [kwT] at hk
    rcases ite_opt hk with ⟨⟨e, rfl⟩, rfl⟩ | hk
    · exact absurd e (by decide +kernel)
    rcases ite_opt hk with ⟨⟨e, rfl⟩, rfl⟩ | hk
    · exact absurd e (by decide +kernel)
    rcases ite_opt hk with ⟨⟨e, rfl⟩, rfl⟩ | hk
    · exact absurd e (by decide +kernel)
    rcases ite_opt hk with ⟨⟨e, rfl⟩, rfl⟩ | hk
    · exact absurd e (by decide +kernel)
    rcases ite_opt hk with ⟨⟨e, rfl⟩, rfl⟩ | hk
    · exact absurd e (by decide +kernel)
    rcases ite_opt hk with ⟨⟨e, rfl⟩, rfl⟩ | hk
    · exact absurd e (by decide +kernel)
    cases hk), PySem.W.mg_of X G a7⟩
  have T8 : At K mg "both_ways" s_both_ways p_both_ways f8 _ := ⟨fun_mk l8 c8 k8, (fun_mk (x := "both_ways") (qual := "both_ways") (st := s_both_ways) l8 c8 k8).binds fun _ _ _ _ _ _ us hl => match us, hl with | [_], _ => rfl, fun kn pm hk => (by
    simp only [kwT] at hk
    rcases ite_opt hk with ⟨⟨e, rfl⟩, rfl⟩ | hk
    · exact absurd e (by decide +kernel)
    rcases ite_opt hk with ⟨⟨e, rfl⟩, rfl⟩ | hk
    · exact absurd e (by decide +kernel)
    rcases ite_opt hk with ⟨⟨e, rfl⟩, rfl⟩ | hk
    · exact absurd e (by decide +kernel)
    rcases ite_opt hk with ⟨⟨e, rfl⟩, rfl⟩ | hk
    · exact absurd e (by decide +kernel)
    rcases ite_opt hk with ⟨⟨e, rfl⟩, rfl⟩ | hk
    · exact absurd e (by decide +kernel)
    rcases ite_opt hk with ⟨⟨e, rfl⟩, rfl⟩ | hk
    · exact absurd e (by decide +kernel)
    cases hk), PySem.W.mg_of X G a8⟩
  have T9 : At K mg "hang_together" s_hang_together p_hang_together f9 _ := ⟨fun_mk l9 c9 k9, (fun_mk (x := "hang_together") (qual := "hang_together") (st := s_hang_together) l9 c9 k9).binds fun _ _ _ _ _ _ us hl => match us, hl with | [_, _], _ => rfl, fun kn pm hk => (by
    simp only [kwT] at hk
    rcases ite_opt hk with ⟨⟨e, rfl⟩, rfl⟩ | hk
    · exact absurd e (by decide +kernel)
    rcases ite_opt hk with ⟨⟨e, rfl⟩, rfl⟩ | hk
    · exact absurd e (by decide +kernel)
    rcases ite_opt hk with ⟨⟨e, rfl⟩, rfl⟩ | hk
    · exact absurd e (by decide +kernel)
    rcases ite_opt hk with ⟨⟨e, rfl⟩, rfl⟩ | hk
    · exact absurd e (by decide +kernel)
    rcases ite_opt hk with ⟨⟨e, rfl⟩, rfl⟩ | hk
    · exact absurd e (by decide +kernel)
    rcases ite_opt hk with ⟨⟨e, rfl⟩, rfl⟩ | hk
    · exact absurd e (by decide +kernel)
    cases hk), PySem.W.mg_of X G a9⟩
  have T10 : At K mg "is_plan" s_is_plan p_is_plan f10 _ := ⟨fun_mk l10 c10 k10, (fun_mk (x := "is_plan") (qual := "is_plan") (st := s_is_plan) l10 c10 k10).binds fun _ _ _ _ _ _ us hl => match us, hl with | [_], _ => rfl, fun kn pm hk => (by
    simp only [kwT] at hk
    rcases ite_opt hk with ⟨⟨e, rfl⟩, rfl⟩ | hk
    · exact absurd e (by decide +kernel)
    rcases ite_opt hk with ⟨⟨e, rfl⟩, rfl⟩ | hk
    · exact absurd e (by decide +kernel)
    rcases ite_opt hk with ⟨⟨e, rfl⟩, rfl⟩ | hk
    · exact absurd e (by decide +kernel)
    rcases ite_opt hk with ⟨⟨e, rfl⟩, rfl⟩ | hk
    · exact absurd e (by decide +kernel)
    rcases ite_opt hk with ⟨⟨e, rfl⟩, rfl⟩ | hk
    · exact absurd e (by decide +kernel)
    rcases ite_opt hk with ⟨⟨e, rfl⟩, rfl⟩ | hk
    · exact absurd e (by decide +kernel)
    cases hk), PySem.W.mg_of X G a10⟩
  have T11 : At K mg "need_plan" s_need_plan p_need_plan f11 _ := ⟨fun_mk l11 c11 k11, (fun_mk (x := "need_plan") (qual := "need_plan") (st := s_need_plan) l11 c11 k11).binds fun _ _ _ _ _ _ us hl => match us, hl with | [_], _ => rfl, fun kn pm hk => (by
    simp only [kwT] at hk
    rcases ite_opt hk with ⟨⟨e, rfl⟩, rfl⟩ | hk
    · exact absurd e (by decide +kernel)
    rcases ite_opt hk with ⟨⟨e, rfl⟩, rfl⟩ | hk
    · exact absurd e (by decide +kernel)
    rcases ite_opt hk with ⟨⟨e, rfl⟩, rfl⟩ | hk
    · exact absurd e (by decide +kernel)
    rcases ite_opt hk with ⟨⟨e, rfl⟩, rfl⟩ | hk
    · exact absurd e (by decide +kernel)
    rcases ite_opt hk with ⟨⟨e, rfl⟩, rfl⟩ | hk
    · exact absurd e (by decide +kernel)
    rcases ite_opt hk with ⟨⟨e, rfl⟩, rfl⟩ | hk
    · exact absurd e (by decide +kernel)
    cases hk), PySem.W.mg_of X G a11⟩
  have T12 : At K mg "is_signing" s_is_signing p_is_signing f12 _ := ⟨fun_mk l12 c12 k12, (fun_mk (x := "is_signing") (qual := "is_signing") (st := s_is_signing) l12 c12 k12).binds fun _ _ _ _ _ _ us hl => match us, hl with | [_, _], _ => rfl, fun kn pm hk => (by
    simp only [kwT] at hk
    rcases ite_opt hk with ⟨⟨e, rfl⟩, rfl⟩ | hk
    · exact absurd e (by decide +kernel)
    rcases ite_opt hk with ⟨⟨e, rfl⟩, rfl⟩ | hk
    · exact absurd e (by decide +kernel)
    rcases ite_opt hk with ⟨⟨e, rfl⟩, rfl⟩ | hk
    · exact absurd e (by decide +kernel)
    rcases ite_opt hk with ⟨⟨e, rfl⟩, rfl⟩ | hk
    · exact absurd e (by decide +kernel)
    rcases ite_opt hk with ⟨⟨e, rfl⟩, rfl⟩ | hk
    · exact absurd e (by decide +kernel)
    rcases ite_opt hk with ⟨⟨e, rfl⟩, rfl⟩ | hk
    · exact absurd e (by decide +kernel)
    cases hk), PySem.W.mg_of X G a12⟩
  have T13 : At K mg "need_signing" s_need_signing p_need_signing f13 _ := ⟨fun_mk l13 c13 k13, (fun_mk (x := "need_signing") (qual := "need_signing") (st := s_need_signing) l13 c13 k13).binds fun _ _ _ _ _ _ us hl => match us, hl with | [_, _], _ => rfl, fun kn pm hk => (by
    simp only [kwT] at hk
    rcases ite_opt hk with ⟨⟨e, rfl⟩, rfl⟩ | hk
    · exact absurd e (by decide +kernel)
    rcases ite_opt hk with ⟨⟨e, rfl⟩, rfl⟩ | hk
    · exact absurd e (by decide +kernel)
    rcases ite_opt hk with ⟨⟨e, rfl⟩, rfl⟩ | hk
    · exact absurd e (by decide +kernel)
    rcases ite_opt hk with ⟨⟨e, rfl⟩, rfl⟩ | hk
    · exact absurd e (by decide +kernel)
    rcases ite_opt hk with ⟨⟨e, rfl⟩, rfl⟩ | hk
    · exact absurd e (by decide +kernel)
    rcases ite_opt hk with ⟨⟨e, rfl⟩, rfl⟩ | hk
    · exact absurd e (by decide +kernel)
    cases hk), PySem.W.mg_of X G a13⟩
  have T14 : At K mg "need_signings" s_need_signings p_need_signings f14 _ := ⟨fun_mk l14 c14 k14, (fun_mk (x := "need_signings") (qual := "need_signings") (st := s_need_signings) l14 c14 k14).binds fun _ _ _ _ _ _ us hl => match us, hl with | [_, _, _], _ => rfl, fun kn pm hk => (by
    simp only [kwT] at hk
    rcases ite_opt hk with ⟨⟨e, rfl⟩, rfl⟩ | hk
    · exact absurd e (by decide +kernel)
    rcases ite_opt hk with ⟨⟨e, rfl⟩, rfl⟩ | hk
    · exact absurd e (by decide +kernel)
    rcases ite_opt hk with ⟨⟨e, rfl⟩, rfl⟩ | hk
    · exact absurd e (by decide +kernel)
    rcases ite_opt hk with ⟨⟨e, rfl⟩, rfl⟩ | hk
    · exact absurd e (by decide +kernel)
    rcases ite_opt hk with ⟨⟨e, rfl⟩, rfl⟩ | hk
    · exact absurd e (by decide +kernel)
    rcases ite_opt hk with ⟨⟨e, rfl⟩, rfl⟩ | hk
    · exact absurd e (by decide +kernel)
    cases hk), PySem.W.mg_of X G a14⟩
  have T15 : At K mg "paths_of" s_paths_of p_paths_of f15 _ := ⟨fun_mk l15 c15 k15, (fun_mk (x := "paths_of") (qual := "paths_of") (st := s_paths_of) l15 c15 k15).binds fun _ _ _ _ _ _ us hl => match us, hl with | [_, _], _ => rfl, fun kn pm hk => (by
    simp only [kwT] at hk
    rcases ite_opt hk with ⟨⟨e, rfl⟩, rfl⟩ | hk
    · exact absurd e (by decide +kernel)
    rcases ite_opt hk with ⟨⟨e, rfl⟩, rfl⟩ | hk
    · exact absurd e (by decide +kernel)
    rcases ite_opt hk with ⟨⟨e, rfl⟩, rfl⟩ | hk
    · exact absurd e (by decide +kernel)
    rcases ite_opt hk with ⟨⟨e, rfl⟩, rfl⟩ | hk
    · exact absurd e (by decide +kernel)
    rcases ite_opt hk with ⟨⟨e, rfl⟩, rfl⟩ | hk
    · exact absurd e (by decide +kernel)
    rcases ite_opt hk with ⟨⟨e, rfl⟩, rfl⟩ | hk
    · exact absurd e (by decide +kernel)
    cases hk), PySem.W.mg_of X G a15⟩
  have T16 : At K mg "outs_of" s_outs_of p_outs_of f16 _ := ⟨fun_mk l16 c16 k16, (fun_mk (x := "outs_of") (qual := "outs_of") (st := s_outs_of) l16 c16 k16).binds fun _ _ _ _ _ _ us hl => match us, hl with | [_, _], _ => rfl, fun kn pm hk => (by
    simp only [kwT] at hk
    rcases ite_opt hk with ⟨⟨e, rfl⟩, rfl⟩ | hk
    · exact absurd e (by decide +kernel)
    rcases ite_opt hk with ⟨⟨e, rfl⟩, rfl⟩ | hk
    · exact absurd e (by decide +kernel)
    rcases ite_opt hk with ⟨⟨e, rfl⟩, rfl⟩ | hk
    · exact absurd e (by decide +kernel)
    rcases ite_opt hk with ⟨⟨e, rfl⟩, rfl⟩ | hk
    · exact absurd e (by decide +kernel)
    rcases ite_opt hk with ⟨⟨e, rfl⟩, rfl⟩ | hk
    · exact absurd e (by decide +kernel)
    rcases ite_opt hk with ⟨⟨e, rfl⟩, rfl⟩ | hk
    · exact absurd e (by decide +kernel)
    cases hk), PySem.W.mg_of X G a16⟩
  have T17 : At K mg "outs" s_outs p_outs f17 _ := ⟨fun_mk l17 c17 k17, (fun_mk (x := "outs") (qual := "outs") (st := s_outs) l17 c17 k17).binds fun _ _ _ _ _ _ us hl => match us, hl with | [_, _], _ => rfl, fun kn pm hk => (by
    simp only [kwT] at hk
    rcases ite_opt hk with ⟨⟨e, rfl⟩, rfl⟩ | hk
    · exact absurd e (by decide +kernel)
    rcases ite_opt hk with ⟨⟨e, rfl⟩, rfl⟩ | hk
    · exact absurd e (by decide +kernel)
    rcases ite_opt hk with ⟨⟨e, rfl⟩, rfl⟩ | hk
    · exact absurd e (by decide +kernel)
    rcases ite_opt hk with ⟨⟨e, rfl⟩, rfl⟩ | hk
    · exact absurd e (by decide +kernel)
    rcases ite_opt hk with ⟨⟨e, rfl⟩, rfl⟩ | hk
    · exact absurd e (by decide +kernel)
    rcases ite_opt hk with ⟨⟨e, rfl⟩, rfl⟩ | hk
    · exact absurd e (by decide +kernel)
    cases hk), PySem.W.mg_of X G a17⟩
  have T18 : At K mg "is_rising" s_is_rising p_is_rising f18 _ := ⟨fun_mk l18 c18 k18, (fun_mk (x := "is_rising") (qual := "is_rising") (st := s_is_rising) l18 c18 k18).binds fun _ _ _ _ _ _ us hl => match us, hl with | [_, _], _ => rfl, fun kn pm hk => (by
    simp only [kwT] at hk
    rcases ite_opt hk with ⟨⟨e, rfl⟩, rfl⟩ | hk
    · exact absurd e (by decide +kernel)
    rcases ite_opt hk with ⟨⟨e, rfl⟩, rfl⟩ | hk
    · exact absurd e (by decide +kernel)
    rcases ite_opt hk with ⟨⟨e, rfl⟩, rfl⟩ | hk
    · exact absurd e (by decide +kernel)
    rcases ite_opt hk with ⟨⟨e, rfl⟩, rfl⟩ | hk
    · exact absurd e (by decide +kernel)
    rcases ite_opt hk with ⟨⟨e, rfl⟩, rfl⟩ | hk
    · exact absurd e (by decide +kernel)
    rcases ite_opt hk with ⟨⟨e, rfl⟩, rfl⟩ | hk
    · exact absurd e (by decide +kernel)
    cases hk), PySem.W.mg_of X G a18⟩
  have T19 : At K mg "lead_round" s_lead_round p_lead_round f19 _ := ⟨fun_mk l19 c19 k19, (fun_mk (x := "lead_round") (qual := "lead_round") (st := s_lead_round) l19 c19 k19).binds fun _ _ _ _ _ _ us hl => match us, hl with | [_], _ => rfl, fun kn pm hk => (by
    simp only [kwT] at hk
    rcases ite_opt hk with ⟨⟨e, rfl⟩, rfl⟩ | hk
    · exact absurd e (by decide +kernel)
    rcases ite_opt hk with ⟨⟨e, rfl⟩, rfl⟩ | hk
    · exact absurd e (by decide +kernel)
    rcases ite_opt hk with ⟨⟨e, rfl⟩, rfl⟩ | hk
    · exact absurd e (by decide +kernel)
    rcases ite_opt hk with ⟨⟨e, rfl⟩, rfl⟩ | hk
    · exact absurd e (by decide +kernel)
    rcases ite_opt hk with ⟨⟨e, rfl⟩, rfl⟩ | hk
    · exact absurd e (by decide +kernel)
    rcases ite_opt hk with ⟨⟨e, rfl⟩, rfl⟩ | hk
    · exact absurd e (by decide +kernel)
    cases hk), PySem.W.mg_of X G a19⟩
  have T20 : At K mg "is_ring" s_is_ring p_is_ring f20 _ := ⟨fun_mk l20 c20 k20, (fun_mk (x := "is_ring") (qual := "is_ring") (st := s_is_ring) l20 c20 k20).binds fun _ _ _ _ _ _ us hl => match us, hl with | [_, _, _], _ => rfl, fun kn pm hk => (by
    simp only [kwT] at hk
    rcases ite_opt hk with ⟨⟨e, rfl⟩, rfl⟩ | hk
    · exact absurd e (by decide +kernel)
    rcases ite_opt hk with ⟨⟨e, rfl⟩, rfl⟩ | hk
    · exact absurd e (by decide +kernel)
    rcases ite_opt hk with ⟨⟨e, rfl⟩, rfl⟩ | hk
    · exact absurd e (by decide +kernel)
    rcases ite_opt hk with ⟨⟨e, rfl⟩, rfl⟩ | hk
    · exact absurd e (by decide +kernel)
    rcases ite_opt hk with ⟨⟨e, rfl⟩, rfl⟩ | hk
    · exact absurd e (by decide +kernel)
    rcases ite_opt hk with ⟨⟨e, rfl⟩, rfl⟩ | hk
    · exact absurd e (by decide +kernel)
    cases hk), PySem.W.mg_of X G a20⟩
  have T21 : At K mg "lead_out" s_lead_out p_lead_out f21 _ := ⟨fun_mk l21 c21 k21, (fun_mk (x := "lead_out") (qual := "lead_out") (st := s_lead_out) l21 c21 k21).binds fun _ _ _ _ _ _ us hl => match us, hl with | [_, _], _ => rfl, fun kn pm hk => (by
    simp only [kwT] at hk
    rcases ite_opt hk with ⟨⟨e, rfl⟩, rfl⟩ | hk
    · exact absurd e (by decide +kernel)
    rcases ite_opt hk with ⟨⟨e, rfl⟩, rfl⟩ | hk
    · exact absurd e (by decide +kernel)
    rcases ite_opt hk with ⟨⟨e, rfl⟩, rfl⟩ | hk
    · exact absurd e (by decide +kernel)
    rcases ite_opt hk with ⟨⟨e, rfl⟩, rfl⟩ | hk
    · exact absurd e (by decide +kernel)
    rcases ite_opt hk with ⟨⟨e, rfl⟩, rfl⟩ | hk
    · exact absurd e (by decide +kernel)
    rcases ite_opt hk with ⟨⟨e, rfl⟩, rfl⟩ | hk
    · exact absurd e (by decide +kernel)
    cases hk), PySem.W.mg_of X G a21⟩
  have T22 : At K mg "is_part" s_is_part p_is_part f22 _ := ⟨fun_mk l22 c22 k22, (fun_mk (x := "is_part") (qual := "is_part") (st := s_is_part) l22 c22 k22).binds fun _ _ _ _ _ _ us hl => match us, hl with | [_, _], _ => rfl, fun kn pm hk => (by
    simp only [kwT] at hk
    rcases ite_opt hk with ⟨⟨e, rfl⟩, rfl⟩ | hk
    · exact absurd e (by decide +kernel)
    rcases ite_opt hk with ⟨⟨e, rfl⟩, rfl⟩ | hk
    · exact absurd e (by decide +kernel)
    rcases ite_opt hk with ⟨⟨e, rfl⟩, rfl⟩ | hk
    · exact absurd e (by decide +kernel)
    rcases ite_opt hk with ⟨⟨e, rfl⟩, rfl⟩ | hk
    · exact absurd e (by decide +kernel)
    rcases ite_opt hk with ⟨⟨e, rfl⟩, rfl⟩ | hk
    · exact absurd e (by decide +kernel)
    rcases ite_opt hk with ⟨⟨e, rfl⟩, rfl⟩ | hk
    · exact absurd e (by decide +kernel)
    cases hk), PySem.W.mg_of X G a22⟩
  have T23 : At K mg "is_shore" s_is_shore p_is_shore f23 _ := ⟨fun_mk l23 c23 k23, (fun_mk (x := "is_shore") (qual := "is_shore") (st := s_is_shore) l23 c23 k23).binds fun _ _ _ _ _ _ us hl => match us, hl with | [_, _, _], _ => rfl, fun kn pm hk => (by
    simp only [kwT] at hk
    rcases ite_opt hk with ⟨⟨e, rfl⟩, rfl⟩ | hk
    · exact absurd e (by decide +kernel)
    rcases ite_opt hk with ⟨⟨e, rfl⟩, rfl⟩ | hk
    · exact absurd e (by decide +kernel)
    rcases ite_opt hk with ⟨⟨e, rfl⟩, rfl⟩ | hk
    · exact absurd e (by decide +kernel)
    rcases ite_opt hk with ⟨⟨e, rfl⟩, rfl⟩ | hk
    · exact absurd e (by decide +kernel)
    rcases ite_opt hk with ⟨⟨e, rfl⟩, rfl⟩ | hk
    · exact absurd e (by decide +kernel)
    rcases ite_opt hk with ⟨⟨e, rfl⟩, rfl⟩ | hk
    · exact absurd e (by decide +kernel)
    cases hk), PySem.W.mg_of X G a23⟩
  have T24 : At K mg "is_turn" s_is_turn p_is_turn f24 _ := ⟨fun_mk l24 c24 k24, (fun_mk (x := "is_turn") (qual := "is_turn") (st := s_is_turn) l24 c24 k24).binds fun _ _ _ _ _ _ us hl => match us, hl with | [_, _, _], _ => rfl, fun kn pm hk => (by
    simp only [kwT] at hk
    rcases ite_opt hk with ⟨⟨e, rfl⟩, rfl⟩ | hk
    · exact absurd e (by decide +kernel)
    rcases ite_opt hk with ⟨⟨e, rfl⟩, rfl⟩ | hk
    · exact absurd e (by decide +kernel)
    rcases ite_opt hk with ⟨⟨e, rfl⟩, rfl⟩ | hk
    · exact absurd e (by decide +kernel)
    rcases ite_opt hk with ⟨⟨e, rfl⟩, rfl⟩ | hk
    · exact absurd e (by decide +kernel)
    rcases ite_opt hk with ⟨⟨e, rfl⟩, rfl⟩ | hk
    · exact absurd e (by decide +kernel)
    rcases ite_opt hk with ⟨⟨e, rfl⟩, rfl⟩ | hk
    · exact absurd e (by decide +kernel)
    cases hk), PySem.W.mg_of X G a24⟩
  have T25 : At K mg "is_led_otherwise" s_is_led_otherwise p_is_led_otherwise f25 _ := ⟨fun_mk l25 c25 k25, (fun_mk (x := "is_led_otherwise") (qual := "is_led_otherwise") (st := s_is_led_otherwise) l25 c25 k25).binds fun _ _ _ _ _ _ us hl => match us, hl with | [_, _, _], _ => rfl, fun kn pm hk => (by
    simp only [kwT] at hk
    rcases ite_opt hk with ⟨⟨e, rfl⟩, rfl⟩ | hk
    · exact absurd e (by decide +kernel)
    rcases ite_opt hk with ⟨⟨e, rfl⟩, rfl⟩ | hk
    · exact absurd e (by decide +kernel)
    rcases ite_opt hk with ⟨⟨e, rfl⟩, rfl⟩ | hk
    · exact absurd e (by decide +kernel)
    rcases ite_opt hk with ⟨⟨e, rfl⟩, rfl⟩ | hk
    · exact absurd e (by decide +kernel)
    rcases ite_opt hk with ⟨⟨e, rfl⟩, rfl⟩ | hk
    · exact absurd e (by decide +kernel)
    rcases ite_opt hk with ⟨⟨e, rfl⟩, rfl⟩ | hk
    · exact absurd e (by decide +kernel)
    cases hk), PySem.W.mg_of X G a25⟩
  have T26 : At K mg "signing_behind_turn" s_signing_behind_turn p_signing_behind_turn f26 _ := ⟨fun_mk l26 c26 k26, (fun_mk (x := "signing_behind_turn") (qual := "signing_behind_turn") (st := s_signing_behind_turn) l26 c26 k26).binds fun _ _ _ _ _ _ us hl => match us, hl with | [_, _, _], _ => rfl, fun kn pm hk => (by
    simp only [kwT] at hk
    rcases ite_opt hk with ⟨⟨e, rfl⟩, rfl⟩ | hk
    · exact absurd e (by decide +kernel)
    rcases ite_opt hk with ⟨⟨e, rfl⟩, rfl⟩ | hk
    · exact absurd e (by decide +kernel)
    rcases ite_opt hk with ⟨⟨e, rfl⟩, rfl⟩ | hk
    · exact absurd e (by decide +kernel)
    rcases ite_opt hk with ⟨⟨e, rfl⟩, rfl⟩ | hk
    · exact absurd e (by decide +kernel)
    rcases ite_opt hk with ⟨⟨e, rfl⟩, rfl⟩ | hk
    · exact absurd e (by decide +kernel)
    rcases ite_opt hk with ⟨⟨e, rfl⟩, rfl⟩ | hk
    · exact absurd e (by decide +kernel)
    cases hk), PySem.W.mg_of X G a26⟩
  have T27 : At K mg "signing_behind_row" s_signing_behind_row p_signing_behind_row f27 _ := ⟨fun_mk l27 c27 k27, (fun_mk (x := "signing_behind_row") (qual := "signing_behind_row") (st := s_signing_behind_row) l27 c27 k27).binds fun _ _ _ _ _ _ us hl => match us, hl with | [_, _, _], _ => rfl, fun kn pm hk => (by
    simp only [kwT] at hk
    rcases ite_opt hk with ⟨⟨e, rfl⟩, rfl⟩ | hk
    · exact absurd e (by decide +kernel)
    rcases ite_opt hk with ⟨⟨e, rfl⟩, rfl⟩ | hk
    · exact absurd e (by decide +kernel)
    rcases ite_opt hk with ⟨⟨e, rfl⟩, rfl⟩ | hk
    · exact absurd e (by decide +kernel)
    rcases ite_opt hk with ⟨⟨e, rfl⟩, rfl⟩ | hk
    · exact absurd e (by decide +kernel)
    rcases ite_opt hk with ⟨⟨e, rfl⟩, rfl⟩ | hk
    · exact absurd e (by decide +kernel)
    rcases ite_opt hk with ⟨⟨e, rfl⟩, rfl⟩ | hk
    · exact absurd e (by decide +kernel)
    cases hk), PySem.W.mg_of X G a27⟩
  have T28 : At K mg "leads_there" s_leads_there p_leads_there f28 _ := ⟨fun_mk l28 c28 k28, (fun_mk (x := "leads_there") (qual := "leads_there") (st := s_leads_there) l28 c28 k28).binds fun _ _ _ _ _ _ us hl => match us, hl with | [_, _, _, _, _], _ => rfl, fun kn pm hk => (by
    simp only [kwT] at hk
    rcases ite_opt hk with ⟨⟨e, rfl⟩, rfl⟩ | hk
    · exact absurd e (by decide +kernel)
    rcases ite_opt hk with ⟨⟨e, rfl⟩, rfl⟩ | hk
    · exact absurd e (by decide +kernel)
    rcases ite_opt hk with ⟨⟨e, rfl⟩, rfl⟩ | hk
    · exact absurd e (by decide +kernel)
    rcases ite_opt hk with ⟨⟨e, rfl⟩, rfl⟩ | hk
    · exact absurd e (by decide +kernel)
    rcases ite_opt hk with ⟨⟨e, rfl⟩, rfl⟩ | hk
    · exact absurd e (by decide +kernel)
    rcases ite_opt hk with ⟨⟨e, rfl⟩, rfl⟩ | hk
    · exact absurd e (by decide +kernel)
    cases hk), PySem.W.mg_of X G a28⟩
  have T29 : At K mg "steps_from" s_steps_from p_steps_from f29 _ := ⟨fun_mk l29 c29 k29, (fun_mk (x := "steps_from") (qual := "steps_from") (st := s_steps_from) l29 c29 k29).binds fun _ _ _ _ _ _ us hl => match us, hl with | [_, _, _], _ => rfl, fun kn pm hk => (by
    simp only [kwT] at hk
    rcases ite_opt hk with ⟨⟨e, rfl⟩, rfl⟩ | hk
    · exact absurd e (by decide +kernel)
    rcases ite_opt hk with ⟨⟨e, rfl⟩, rfl⟩ | hk
    · exact absurd e (by decide +kernel)
    rcases ite_opt hk with ⟨⟨e, rfl⟩, rfl⟩ | hk
    · exact absurd e (by decide +kernel)
    rcases ite_opt hk with ⟨⟨e, rfl⟩, rfl⟩ | hk
    · exact absurd e (by decide +kernel)
    rcases ite_opt hk with ⟨⟨e, rfl⟩, rfl⟩ | hk
    · exact absurd e (by decide +kernel)
    rcases ite_opt hk with ⟨⟨e, rfl⟩, rfl⟩ | hk
    · exact absurd e (by decide +kernel)
    cases hk), PySem.W.mg_of X G a29⟩
  have T30 : At K mg "steps_of" s_steps_of p_steps_of f30 _ := ⟨fun_mk l30 c30 k30, (fun_mk (x := "steps_of") (qual := "steps_of") (st := s_steps_of) l30 c30 k30).binds fun _ _ _ _ _ _ us hl => match us, hl with | [_, _], _ => rfl, fun kn pm hk => (by
    simp only [kwT] at hk
    rcases ite_opt hk with ⟨⟨e, rfl⟩, rfl⟩ | hk
    · exact absurd e (by decide +kernel)
    rcases ite_opt hk with ⟨⟨e, rfl⟩, rfl⟩ | hk
    · exact absurd e (by decide +kernel)
    rcases ite_opt hk with ⟨⟨e, rfl⟩, rfl⟩ | hk
    · exact absurd e (by decide +kernel)
    rcases ite_opt hk with ⟨⟨e, rfl⟩, rfl⟩ | hk
    · exact absurd e (by decide +kernel)
    rcases ite_opt hk with ⟨⟨e, rfl⟩, rfl⟩ | hk
    · exact absurd e (by decide +kernel)
    rcases ite_opt hk with ⟨⟨e, rfl⟩, rfl⟩ | hk
    · exact absurd e (by decide +kernel)
    cases hk), PySem.W.mg_of X G a30⟩
  have T31 : At K mg "lead_of" s_lead_of p_lead_of f31 _ := ⟨fun_mk l31 c31 k31, (fun_mk (x := "lead_of") (qual := "lead_of") (st := s_lead_of) l31 c31 k31).binds fun _ _ _ _ _ _ us hl => match us, hl with | [_, _], _ => rfl, fun kn pm hk => (by
    simp only [kwT] at hk
    rcases ite_opt hk with ⟨⟨e, rfl⟩, rfl⟩ | hk
    · exact absurd e (by decide +kernel)
    rcases ite_opt hk with ⟨⟨e, rfl⟩, rfl⟩ | hk
    · exact absurd e (by decide +kernel)
    rcases ite_opt hk with ⟨⟨e, rfl⟩, rfl⟩ | hk
    · exact absurd e (by decide +kernel)
    rcases ite_opt hk with ⟨⟨e, rfl⟩, rfl⟩ | hk
    · exact absurd e (by decide +kernel)
    rcases ite_opt hk with ⟨⟨e, rfl⟩, rfl⟩ | hk
    · exact absurd e (by decide +kernel)
    rcases ite_opt hk with ⟨⟨e, rfl⟩, rfl⟩ | hk
    · exact absurd e (by decide +kernel)
    cases hk), PySem.W.mg_of X G a31⟩
  have T32 : At K mg "lead" s_lead p_lead f32 _ := ⟨fun_mk l32 c32 k32, (fun_mk (x := "lead") (qual := "lead") (st := s_lead) l32 c32 k32).binds fun _ _ _ _ _ _ us hl => match us, hl with | [_, _, _], _ => rfl, fun kn pm hk => (by
    simp only [kwT] at hk
    rcases ite_opt hk with ⟨⟨e, rfl⟩, rfl⟩ | hk
    · exact absurd e (by decide +kernel)
    rcases ite_opt hk with ⟨⟨e, rfl⟩, rfl⟩ | hk
    · exact absurd e (by decide +kernel)
    rcases ite_opt hk with ⟨⟨e, rfl⟩, rfl⟩ | hk
    · exact absurd e (by decide +kernel)
    rcases ite_opt hk with ⟨⟨e, rfl⟩, rfl⟩ | hk
    · exact absurd e (by decide +kernel)
    rcases ite_opt hk with ⟨⟨e, rfl⟩, rfl⟩ | hk
    · exact absurd e (by decide +kernel)
    rcases ite_opt hk with ⟨⟨e, rfl⟩, rfl⟩ | hk
    · exact ⟨rfl, fun s ws hl => match ws, hl with | [_, _, _], _ => .of_eq rfl⟩
    cases hk), PySem.W.mg_of X G a32⟩
  have T33 : At K mg "ways_to_towns" s_ways_to_towns p_ways_to_towns f33 _ := ⟨fun_mk l33 c33 k33, (fun_mk (x := "ways_to_towns") (qual := "ways_to_towns") (st := s_ways_to_towns) l33 c33 k33).binds fun _ _ _ _ _ _ us hl => match us, hl with | [_], _ => rfl, fun kn pm hk => (by
    simp only [kwT] at hk
    rcases ite_opt hk with ⟨⟨e, rfl⟩, rfl⟩ | hk
    · exact absurd e (by decide +kernel)
    rcases ite_opt hk with ⟨⟨e, rfl⟩, rfl⟩ | hk
    · exact absurd e (by decide +kernel)
    rcases ite_opt hk with ⟨⟨e, rfl⟩, rfl⟩ | hk
    · exact absurd e (by decide +kernel)
    rcases ite_opt hk with ⟨⟨e, rfl⟩, rfl⟩ | hk
    · exact absurd e (by decide +kernel)
    rcases ite_opt hk with ⟨⟨e, rfl⟩, rfl⟩ | hk
    · exact absurd e (by decide +kernel)
    rcases ite_opt hk with ⟨⟨e, rfl⟩, rfl⟩ | hk
    · exact absurd e (by decide +kernel)
    cases hk), PySem.W.mg_of X G a33⟩
  have T34 : At K mg "climb" s_climb p_climb f34 _ := ⟨fun_mk l34 c34 k34, (fun_mk (x := "climb") (qual := "climb") (st := s_climb) l34 c34 k34).binds fun _ _ _ _ _ _ us hl => match us, hl with | [_, _, _, _], _ => rfl, fun kn pm hk => (by
    simp only [kwT] at hk
    rcases ite_opt hk with ⟨⟨e, rfl⟩, rfl⟩ | hk
    · exact absurd e (by decide +kernel)
    rcases ite_opt hk with ⟨⟨e, rfl⟩, rfl⟩ | hk
    · exact absurd e (by decide +kernel)
    rcases ite_opt hk with ⟨⟨e, rfl⟩, rfl⟩ | hk
    · exact absurd e (by decide +kernel)
    rcases ite_opt hk with ⟨⟨e, rfl⟩, rfl⟩ | hk
    · exact absurd e (by decide +kernel)
    rcases ite_opt hk with ⟨⟨e, rfl⟩, rfl⟩ | hk
    · exact absurd e (by decide +kernel)
    rcases ite_opt hk with ⟨⟨e, rfl⟩, rfl⟩ | hk
    · exact absurd e (by decide +kernel)
    cases hk), PySem.W.mg_of X G a34⟩
  have T35 : At K mg "levels_between" s_levels_between p_levels_between f35 _ := ⟨fun_mk l35 c35 k35, (fun_mk (x := "levels_between") (qual := "levels_between") (st := s_levels_between) l35 c35 k35).binds fun _ _ _ _ _ _ us hl => match us, hl with | [_, _, _], _ => rfl, fun kn pm hk => (by
    simp only [kwT] at hk
    rcases ite_opt hk with ⟨⟨e, rfl⟩, rfl⟩ | hk
    · exact absurd e (by decide +kernel)
    rcases ite_opt hk with ⟨⟨e, rfl⟩, rfl⟩ | hk
    · exact absurd e (by decide +kernel)
    rcases ite_opt hk with ⟨⟨e, rfl⟩, rfl⟩ | hk
    · exact absurd e (by decide +kernel)
    rcases ite_opt hk with ⟨⟨e, rfl⟩, rfl⟩ | hk
    · exact absurd e (by decide +kernel)
    rcases ite_opt hk with ⟨⟨e, rfl⟩, rfl⟩ | hk
    · exact absurd e (by decide +kernel)
    rcases ite_opt hk with ⟨⟨e, rfl⟩, rfl⟩ | hk
    · exact absurd e (by decide +kernel)
    cases hk), PySem.W.mg_of X G a35⟩
  have T36 : At K mg "unfit_streets" s_unfit_streets p_unfit_streets f36 _ := ⟨fun_mk l36 c36 k36, (fun_mk (x := "unfit_streets") (qual := "unfit_streets") (st := s_unfit_streets) l36 c36 k36).binds fun _ _ _ _ _ _ us hl => match us, hl with | [_, _, _, _], _ => rfl, fun kn pm hk => (by
    simp only [kwT] at hk
    rcases ite_opt hk with ⟨⟨e, rfl⟩, rfl⟩ | hk
    · exact absurd e (by decide +kernel)
    rcases ite_opt hk with ⟨⟨e, rfl⟩, rfl⟩ | hk
    · exact absurd e (by decide +kernel)
    rcases ite_opt hk with ⟨⟨e, rfl⟩, rfl⟩ | hk
    · exact absurd e (by decide +kernel)
    rcases ite_opt hk with ⟨⟨e, rfl⟩, rfl⟩ | hk
    · exact absurd e (by decide +kernel)
    rcases ite_opt hk with ⟨⟨e, rfl⟩, rfl⟩ | hk
    · exact absurd e (by decide +kernel)
    rcases ite_opt hk with ⟨⟨e, rfl⟩, rfl⟩ | hk
    · exact absurd e (by decide +kernel)
    cases hk), PySem.W.mg_of X G a36⟩
  have T37 : At K mg "heights" s_heights p_heights f37 _ := ⟨fun_mk l37 c37 k37, (fun_mk (x := "heights") (qual := "heights") (st := s_heights) l37 c37 k37).binds fun _ _ _ _ _ _ us hl => match us, hl with | [_, _, _], _ => rfl, fun kn pm hk => (by
    simp only [kwT] at hk
    rcases ite_opt hk with ⟨⟨e, rfl⟩, rfl⟩ | hk
    · exact absurd e (by decide +kernel)
    rcases ite_opt hk with ⟨⟨e, rfl⟩, rfl⟩ | hk
    · exact absurd e (by decide +kernel)
    rcases ite_opt hk with ⟨⟨e, rfl⟩, rfl⟩ | hk
    · exact ⟨rfl, fun s ws hl => match ws, hl with | [_, _, _], _ => .of_eq rfl⟩
    rcases ite_opt hk with ⟨⟨e, rfl⟩, rfl⟩ | hk
    · exact absurd e (by decide +kernel)
    rcases ite_opt hk with ⟨⟨e, rfl⟩, rfl⟩ | hk
    · exact absurd e (by decide +kernel)
    rcases ite_opt hk with ⟨⟨e, rfl⟩, rfl⟩ | hk
    · exact absurd e (by decide +kernel)
    cases hk), PySem.W.mg_of X G a37⟩
  have T38 : At K mg "towns_up_to" s_towns_up_to p_towns_up_to f38 _ := ⟨fun_mk l38 c38 k38, (fun_mk (x := "towns_up_to") (qual := "towns_up_to") (st := s_towns_up_to) l38 c38 k38).binds fun _ _ _ _ _ _ us hl => match us, hl with | [_, _], _ => rfl, fun kn pm hk => (by
    simp only [kwT] at hk
    rcases ite_opt hk with ⟨⟨e, rfl⟩, rfl⟩ | hk
    · exact absurd e (by decide +kernel)
    rcases ite_opt hk with ⟨⟨e, rfl⟩, rfl⟩ | hk
    · exact absurd e (by decide +kernel)
    rcases ite_opt hk with ⟨⟨e, rfl⟩, rfl⟩ | hk
    · exact absurd e (by decide +kernel)
    rcases ite_opt hk with ⟨⟨e, rfl⟩, rfl⟩ | hk
    · exact absurd e (by decide +kernel)
    rcases ite_opt hk with ⟨⟨e, rfl⟩, rfl⟩ | hk
    · exact absurd e (by decide +kernel)
    rcases ite_opt hk with ⟨⟨e, rfl⟩, rfl⟩ | hk
    · exact absurd e (by decide +kernel)
    cases hk), PySem.W.mg_of X G a38⟩
  have T39 : At K mg "shores_up" s_shores_up p_shores_up f39 _ := ⟨fun_mk l39 c39 k39, (fun_mk (x := "shores_up") (qual := "shores_up") (st := s_shores_up) l39 c39 k39).binds fun _ _ _ _ _ _ us hl => match us, hl with | [_], _ => rfl, fun kn pm hk => (by
    simp only [kwT] at hk
    rcases ite_opt hk with ⟨⟨e, rfl⟩, rfl⟩ | hk
    · exact absurd e (by decide +kernel)
    rcases ite_opt hk with ⟨⟨e, rfl⟩, rfl⟩ | hk
    · exact absurd e (by decide +kernel)
    rcases ite_opt hk with ⟨⟨e, rfl⟩, rfl⟩ | hk
    · exact absurd e (by decide +kernel)
    rcases ite_opt hk with ⟨⟨e, rfl⟩, rfl⟩ | hk
    · exact absurd e (by decide +kernel)
    rcases ite_opt hk with ⟨⟨e, rfl⟩, rfl⟩ | hk
    · exact absurd e (by decide +kernel)
    rcases ite_opt hk with ⟨⟨e, rfl⟩, rfl⟩ | hk
    · exact absurd e (by decide +kernel)
    cases hk), PySem.W.mg_of X G a39⟩
  have T40 : At K mg "streets_round" s_streets_round p_streets_round f40 _ := ⟨fun_mk l40 c40 k40, (fun_mk (x := "streets_round") (qual := "streets_round") (st := s_streets_round) l40 c40 k40).binds fun _ _ _ _ _ _ us hl => match us, hl with | [_, _], _ => rfl, fun kn pm hk => (by
    simp only [kwT] at hk
    rcases ite_opt hk with ⟨⟨e, rfl⟩, rfl⟩ | hk
    · exact absurd e (by decide +kernel)
    rcases ite_opt hk with ⟨⟨e, rfl⟩, rfl⟩ | hk
    · exact absurd e (by decide +kernel)
    rcases ite_opt hk with ⟨⟨e, rfl⟩, rfl⟩ | hk
    · exact absurd e (by decide +kernel)
    rcases ite_opt hk with ⟨⟨e, rfl⟩, rfl⟩ | hk
    · exact absurd e (by decide +kernel)
    rcases ite_opt hk with ⟨⟨e, rfl⟩, rfl⟩ | hk
    · exact absurd e (by decide +kernel)
    rcases ite_opt hk with ⟨⟨e, rfl⟩, rfl⟩ | hk
    · exact absurd e (by decide +kernel)
    cases hk), PySem.W.mg_of X G a40⟩
  have T41 : At K mg "by_shores" s_by_shores p_by_shores f41 _ := ⟨fun_mk l41 c41 k41, (fun_mk (x := "by_shores") (qual := "by_shores") (st := s_by_shores) l41 c41 k41).binds fun _ _ _ _ _ _ us hl => match us, hl with | [_, _, _], _ => rfl, fun kn pm hk => (by
    simp only [kwT] at hk
    rcases ite_opt hk with ⟨⟨e, rfl⟩, rfl⟩ | hk
    · exact absurd e (by decide +kernel)
    rcases ite_opt hk with ⟨⟨e, rfl⟩, rfl⟩ | hk
    · exact absurd e (by decide +kernel)
    rcases ite_opt hk with ⟨⟨e, rfl⟩, rfl⟩ | hk
    · exact absurd e (by decide +kernel)
    rcases ite_opt hk with ⟨⟨e, rfl⟩, rfl⟩ | hk
    · exact absurd e (by decide +kernel)
    rcases ite_opt hk with ⟨⟨e, rfl⟩, rfl⟩ | hk
    · exact ⟨rfl, fun s ws hl => match ws, hl with | [_, _, _], _ => .of_eq rfl⟩
    rcases ite_opt hk with ⟨⟨e, rfl⟩, rfl⟩ | hk
    · exact absurd e (by decide +kernel)
    cases hk), PySem.W.mg_of X G a41⟩
  have T42 : At K mg "is_unlike_round" s_is_unlike_round p_is_unlike_round f42 _ := ⟨fun_mk l42 c42 k42, (fun_mk (x := "is_unlike_round") (qual := "is_unlike_round") (st := s_is_unlike_round) l42 c42 k42).binds fun _ _ _ _ _ _ us hl => match us, hl with | [_, _, _, _], _ => rfl, fun kn pm hk => (by
    simp only [kwT] at hk
    rcases ite_opt hk with ⟨⟨e, rfl⟩, rfl⟩ | hk
    · exact absurd e (by decide +kernel)
    rcases ite_opt hk with ⟨⟨e, rfl⟩, rfl⟩ | hk
    · exact absurd e (by decide +kernel)
    rcases ite_opt hk with ⟨⟨e, rfl⟩, rfl⟩ | hk
    · exact absurd e (by decide +kernel)
    rcases ite_opt hk with ⟨⟨e, rfl⟩, rfl⟩ | hk
    · exact absurd e (by decide +kernel)
    rcases ite_opt hk with ⟨⟨e, rfl⟩, rfl⟩ | hk
    · exact absurd e (by decide +kernel)
    rcases ite_opt hk with ⟨⟨e, rfl⟩, rfl⟩ | hk
    · exact absurd e (by decide +kernel)
    cases hk), PySem.W.mg_of X G a42⟩
  have T43 : At K mg "shows_by_shores" s_shows_by_shores p_shows_by_shores f43 _ := ⟨fun_mk l43 c43 k43, (fun_mk (x := "shows_by_shores") (qual := "shows_by_shores") (st := s_shows_by_shores) l43 c43 k43).binds fun _ _ _ _ _ _ us hl => match us, hl with | [_, _, _, _], _ => rfl, fun kn pm hk => (by
    simp only [kwT] at hk
    rcases ite_opt hk with ⟨⟨e, rfl⟩, rfl⟩ | hk
    · exact absurd e (by decide +kernel)
    rcases ite_opt hk with ⟨⟨e, rfl⟩, rfl⟩ | hk
    · exact absurd e (by decide +kernel)
    rcases ite_opt hk with ⟨⟨e, rfl⟩, rfl⟩ | hk
    · exact absurd e (by decide +kernel)
    rcases ite_opt hk with ⟨⟨e, rfl⟩, rfl⟩ | hk
    · exact ⟨rfl, fun s ws hl => match ws, hl with | [_, _, _, _], _ => .of_eq rfl⟩
    rcases ite_opt hk with ⟨⟨e, rfl⟩, rfl⟩ | hk
    · exact absurd e (by decide +kernel)
    rcases ite_opt hk with ⟨⟨e, rfl⟩, rfl⟩ | hk
    · exact absurd e (by decide +kernel)
    cases hk), PySem.W.mg_of X G a43⟩
  have T44 : At K mg "ring_through" s_ring_through p_ring_through f44 _ := ⟨fun_mk l44 c44 k44, (fun_mk (x := "ring_through") (qual := "ring_through") (st := s_ring_through) l44 c44 k44).binds fun _ _ _ _ _ _ us hl => match us, hl with | [_, _, _], _ => rfl, fun kn pm hk => (by
    simp only [kwT] at hk
    rcases ite_opt hk with ⟨⟨e, rfl⟩, rfl⟩ | hk
    · exact absurd e (by decide +kernel)
    rcases ite_opt hk with ⟨⟨e, rfl⟩, rfl⟩ | hk
    · exact absurd e (by decide +kernel)
    rcases ite_opt hk with ⟨⟨e, rfl⟩, rfl⟩ | hk
    · exact absurd e (by decide +kernel)
    rcases ite_opt hk with ⟨⟨e, rfl⟩, rfl⟩ | hk
    · exact absurd e (by decide +kernel)
    rcases ite_opt hk with ⟨⟨e, rfl⟩, rfl⟩ | hk
    · exact absurd e (by decide +kernel)
    rcases ite_opt hk with ⟨⟨e, rfl⟩, rfl⟩ | hk
    · exact absurd e (by decide +kernel)
    cases hk), PySem.W.mg_of X G a44⟩
  have T45 : At K mg "unlike_places" s_unlike_places p_unlike_places f45 _ := ⟨fun_mk l45 c45 k45, (fun_mk (x := "unlike_places") (qual := "unlike_places") (st := s_unlike_places) l45 c45 k45).binds fun _ _ _ _ _ _ us hl => match us, hl with | [_, _], _ => rfl, fun kn pm hk => (by
    simp only [kwT] at hk
    rcases ite_opt hk with ⟨⟨e, rfl⟩, rfl⟩ | hk
    · exact absurd e (by decide +kernel)
    rcases ite_opt hk with ⟨⟨e, rfl⟩, rfl⟩ | hk
    · exact absurd e (by decide +kernel)
    rcases ite_opt hk with ⟨⟨e, rfl⟩, rfl⟩ | hk
    · exact absurd e (by decide +kernel)
    rcases ite_opt hk with ⟨⟨e, rfl⟩, rfl⟩ | hk
    · exact absurd e (by decide +kernel)
    rcases ite_opt hk with ⟨⟨e, rfl⟩, rfl⟩ | hk
    · exact absurd e (by decide +kernel)
    rcases ite_opt hk with ⟨⟨e, rfl⟩, rfl⟩ | hk
    · exact absurd e (by decide +kernel)
    cases hk), PySem.W.mg_of X G a45⟩
  have T46 : At K mg "rings_between" s_rings_between p_rings_between f46 _ := ⟨fun_mk l46 c46 k46, (fun_mk (x := "rings_between") (qual := "rings_between") (st := s_rings_between) l46 c46 k46).binds fun _ _ _ _ _ _ us hl => match us, hl with | [_, _, _], _ => rfl, fun kn pm hk => (by
    simp only [kwT] at hk
    rcases ite_opt hk with ⟨⟨e, rfl⟩, rfl⟩ | hk
    · exact absurd e (by decide +kernel)
    rcases ite_opt hk with ⟨⟨e, rfl⟩, rfl⟩ | hk
    · exact absurd e (by decide +kernel)
    rcases ite_opt hk with ⟨⟨e, rfl⟩, rfl⟩ | hk
    · exact absurd e (by decide +kernel)
    rcases ite_opt hk with ⟨⟨e, rfl⟩, rfl⟩ | hk
    · exact absurd e (by decide +kernel)
    rcases ite_opt hk with ⟨⟨e, rfl⟩, rfl⟩ | hk
    · exact absurd e (by decide +kernel)
    rcases ite_opt hk with ⟨⟨e, rfl⟩, rfl⟩ | hk
    · exact absurd e (by decide +kernel)
    cases hk), PySem.W.mg_of X G a46⟩
  have T47 : At K mg "unlike_towns" s_unlike_towns p_unlike_towns f47 _ := ⟨fun_mk l47 c47 k47, (fun_mk (x := "unlike_towns") (qual := "unlike_towns") (st := s_unlike_towns) l47 c47 k47).binds fun _ _ _ _ _ _ us hl => match us, hl with | [_, _, _], _ => rfl, fun kn pm hk => (by
    simp only [kwT] at hk
    rcases ite_opt hk with ⟨⟨e, rfl⟩, rfl⟩ | hk
    · exact absurd e (by decide +kernel)
    rcases ite_opt hk with ⟨⟨e, rfl⟩, rfl⟩ | hk
    · exact absurd e (by decide +kernel)
    rcases ite_opt hk with ⟨⟨e, rfl⟩, rfl⟩ | hk
    · exact absurd e (by decide +kernel)
    rcases ite_opt hk with ⟨⟨e, rfl⟩, rfl⟩ | hk
    · exact absurd e (by decide +kernel)
    rcases ite_opt hk with ⟨⟨e, rfl⟩, rfl⟩ | hk
    · exact absurd e (by decide +kernel)
    rcases ite_opt hk with ⟨⟨e, rfl⟩, rfl⟩ | hk
    · exact absurd e (by decide +kernel)
    cases hk), PySem.W.mg_of X G a47⟩
  have T48 : At K mg "by_rings" s_by_rings p_by_rings f48 _ := ⟨fun_mk l48 c48 k48, (fun_mk (x := "by_rings") (qual := "by_rings") (st := s_by_rings) l48 c48 k48).binds fun _ _ _ _ _ _ us hl => match us, hl with | [_, _, _], _ => rfl, fun kn pm hk => (by
    simp only [kwT] at hk
    rcases ite_opt hk with ⟨⟨e, rfl⟩, rfl⟩ | hk
    · exact ⟨rfl, fun s ws hl => match ws, hl with | [_, _, _], _ => .of_eq rfl⟩
    rcases ite_opt hk with ⟨⟨e, rfl⟩, rfl⟩ | hk
    · exact absurd e (by decide +kernel)
    rcases ite_opt hk with ⟨⟨e, rfl⟩, rfl⟩ | hk
    · exact absurd e (by decide +kernel)
    rcases ite_opt hk with ⟨⟨e, rfl⟩, rfl⟩ | hk
    · exact absurd e (by decide +kernel)
    rcases ite_opt hk with ⟨⟨e, rfl⟩, rfl⟩ | hk
    · exact absurd e (by decide +kernel)
    rcases ite_opt hk with ⟨⟨e, rfl⟩, rfl⟩ | hk
    · exact absurd e (by decide +kernel)
    cases hk), PySem.W.mg_of X G a48⟩
  have T49 : At K mg "shows_by_rings" s_shows_by_rings p_shows_by_rings f49 _ := ⟨fun_mk l49 c49 k49, (fun_mk (x := "shows_by_rings") (qual := "shows_by_rings") (st := s_shows_by_rings) l49 c49 k49).binds fun _ _ _ _ _ _ us hl => match us, hl with | [_, _, _, _], _ => rfl, fun kn pm hk => (by
    simp only [kwT] at hk
    rcases ite_opt hk with ⟨⟨e, rfl⟩, rfl⟩ | hk
    · exact absurd e (by decide +kernel)
    rcases ite_opt hk with ⟨⟨e, rfl⟩, rfl⟩ | hk
    · exact ⟨rfl, fun s ws hl => match ws, hl with | [_, _, _, _], _ => .of_eq rfl⟩
    rcases ite_opt hk with ⟨⟨e, rfl⟩, rfl⟩ | hk
    · exact absurd e (by decide +kernel)
    rcases ite_opt hk with ⟨⟨e, rfl⟩, rfl⟩ | hk
    · exact absurd e (by decide +kernel)
    rcases ite_opt hk with ⟨⟨e, rfl⟩, rfl⟩ | hk
    · exact absurd e (by decide +kernel)
    rcases ite_opt hk with ⟨⟨e, rfl⟩, rfl⟩ | hk
    · exact absurd e (by decide +kernel)
    cases hk), PySem.W.mg_of X G a49⟩
  have T50 : At K mg "_law_cell_at" s__law_cell_at p__law_cell_at f50 _ := ⟨fun_mk l50 c50 k50, (fun_mk (x := "_law_cell_at") (qual := "_law_cell_at") (st := s__law_cell_at) l50 c50 k50).binds fun _ _ _ _ _ _ us hl => match us, hl with | [_, _], _ => rfl, fun kn pm hk => (by
    simp only [kwT] at hk
    rcases ite_opt hk with ⟨⟨e, rfl⟩, rfl⟩ | hk
    · exact absurd e (by decide +kernel)
    rcases ite_opt hk with ⟨⟨e, rfl⟩, rfl⟩ | hk
    · exact absurd e (by decide +kernel)
    rcases ite_opt hk with ⟨⟨e, rfl⟩, rfl⟩ | hk
    · exact absurd e (by decide +kernel)
    rcases ite_opt hk with ⟨⟨e, rfl⟩, rfl⟩ | hk
    · exact absurd e (by decide +kernel)
    rcases ite_opt hk with ⟨⟨e, rfl⟩, rfl⟩ | hk
    · exact absurd e (by decide +kernel)
    rcases ite_opt hk with ⟨⟨e, rfl⟩, rfl⟩ | hk
    · exact absurd e (by decide +kernel)
    cases hk), PySem.W.mg_of X G a50⟩
  have T51 : At K mg "_law_pen" s__law_pen p__law_pen f51 _ := ⟨fun_mk l51 c51 k51, (fun_mk (x := "_law_pen") (qual := "_law_pen") (st := s__law_pen) l51 c51 k51).binds fun _ _ _ _ _ _ us hl => match us, hl with | [_], _ => rfl, fun kn pm hk => (by
    simp only [kwT] at hk
    rcases ite_opt hk with ⟨⟨e, rfl⟩, rfl⟩ | hk
    · exact absurd e (by decide +kernel)
    rcases ite_opt hk with ⟨⟨e, rfl⟩, rfl⟩ | hk
    · exact absurd e (by decide +kernel)
    rcases ite_opt hk with ⟨⟨e, rfl⟩, rfl⟩ | hk
    · exact absurd e (by decide +kernel)
    rcases ite_opt hk with ⟨⟨e, rfl⟩, rfl⟩ | hk
    · exact absurd e (by decide +kernel)
    rcases ite_opt hk with ⟨⟨e, rfl⟩, rfl⟩ | hk
    · exact absurd e (by decide +kernel)
    rcases ite_opt hk with ⟨⟨e, rfl⟩, rfl⟩ | hk
    · exact absurd e (by decide +kernel)
    cases hk), PySem.W.mg_of X G a51⟩
  have T52 : At K mg "_law_draw" s__law_draw p__law_draw f52 _ := ⟨fun_mk l52 c52 k52, (fun_mk (x := "_law_draw") (qual := "_law_draw") (st := s__law_draw) l52 c52 k52).binds fun _ _ _ _ _ _ us hl => match us, hl with | [_, _], _ => rfl, fun kn pm hk => (by
    simp only [kwT] at hk
    rcases ite_opt hk with ⟨⟨e, rfl⟩, rfl⟩ | hk
    · exact absurd e (by decide +kernel)
    rcases ite_opt hk with ⟨⟨e, rfl⟩, rfl⟩ | hk
    · exact absurd e (by decide +kernel)
    rcases ite_opt hk with ⟨⟨e, rfl⟩, rfl⟩ | hk
    · exact absurd e (by decide +kernel)
    rcases ite_opt hk with ⟨⟨e, rfl⟩, rfl⟩ | hk
    · exact absurd e (by decide +kernel)
    rcases ite_opt hk with ⟨⟨e, rfl⟩, rfl⟩ | hk
    · exact absurd e (by decide +kernel)
    rcases ite_opt hk with ⟨⟨e, rfl⟩, rfl⟩ | hk
    · exact absurd e (by decide +kernel)
    cases hk), PySem.W.mg_of X G a52⟩
  have T53 : At K mg "_law_rings_right" s__law_rings_right p__law_rings_right f53 _ := ⟨fun_mk l53 c53 k53, (fun_mk (x := "_law_rings_right") (qual := "_law_rings_right") (st := s__law_rings_right) l53 c53 k53).binds fun _ _ _ _ _ _ us hl => match us, hl with | [_], _ => rfl, fun kn pm hk => (by
    simp only [kwT] at hk
    rcases ite_opt hk with ⟨⟨e, rfl⟩, rfl⟩ | hk
    · exact absurd e (by decide +kernel)
    rcases ite_opt hk with ⟨⟨e, rfl⟩, rfl⟩ | hk
    · exact absurd e (by decide +kernel)
    rcases ite_opt hk with ⟨⟨e, rfl⟩, rfl⟩ | hk
    · exact absurd e (by decide +kernel)
    rcases ite_opt hk with ⟨⟨e, rfl⟩, rfl⟩ | hk
    · exact absurd e (by decide +kernel)
    rcases ite_opt hk with ⟨⟨e, rfl⟩, rfl⟩ | hk
    · exact absurd e (by decide +kernel)
    rcases ite_opt hk with ⟨⟨e, rfl⟩, rfl⟩ | hk
    · exact absurd e (by decide +kernel)
    cases hk), PySem.W.mg_of X G a53⟩
  have T54 : At K mg "_law_shores_right" s__law_shores_right p__law_shores_right f54 _ := ⟨fun_mk l54 c54 k54, (fun_mk (x := "_law_shores_right") (qual := "_law_shores_right") (st := s__law_shores_right) l54 c54 k54).binds fun _ _ _ _ _ _ us hl => match us, hl with | [_], _ => rfl, fun kn pm hk => (by
    simp only [kwT] at hk
    rcases ite_opt hk with ⟨⟨e, rfl⟩, rfl⟩ | hk
    · exact absurd e (by decide +kernel)
    rcases ite_opt hk with ⟨⟨e, rfl⟩, rfl⟩ | hk
    · exact absurd e (by decide +kernel)
    rcases ite_opt hk with ⟨⟨e, rfl⟩, rfl⟩ | hk
    · exact absurd e (by decide +kernel)
    rcases ite_opt hk with ⟨⟨e, rfl⟩, rfl⟩ | hk
    · exact absurd e (by decide +kernel)
    rcases ite_opt hk with ⟨⟨e, rfl⟩, rfl⟩ | hk
    · exact absurd e (by decide +kernel)
    rcases ite_opt hk with ⟨⟨e, rfl⟩, rfl⟩ | hk
    · exact absurd e (by decide +kernel)
    cases hk), PySem.W.mg_of X G a54⟩
  have T55 : At K mg "_law_two_right" s__law_two_right p__law_two_right f55 _ := ⟨fun_mk l55 c55 k55, (fun_mk (x := "_law_two_right") (qual := "_law_two_right") (st := s__law_two_right) l55 c55 k55).binds fun _ _ _ _ _ _ us hl => match us, hl with | [_], _ => rfl, fun kn pm hk => (by
    simp only [kwT] at hk
    rcases ite_opt hk with ⟨⟨e, rfl⟩, rfl⟩ | hk
    · exact absurd e (by decide +kernel)
    rcases ite_opt hk with ⟨⟨e, rfl⟩, rfl⟩ | hk
    · exact absurd e (by decide +kernel)
    rcases ite_opt hk with ⟨⟨e, rfl⟩, rfl⟩ | hk
    · exact absurd e (by decide +kernel)
    rcases ite_opt hk with ⟨⟨e, rfl⟩, rfl⟩ | hk
    · exact absurd e (by decide +kernel)
    rcases ite_opt hk with ⟨⟨e, rfl⟩, rfl⟩ | hk
    · exact absurd e (by decide +kernel)
    rcases ite_opt hk with ⟨⟨e, rfl⟩, rfl⟩ | hk
    · exact absurd e (by decide +kernel)
    cases hk), PySem.W.mg_of X G a55⟩
  have T56 : At K mg "law" s_law p_law f56 _ := ⟨fun_mk l56 c56 k56, (fun_mk (x := "law") (qual := "law") (st := s_law) l56 c56 k56).binds fun _ _ _ _ _ _ us hl => match us, hl with | [_], _ => rfl, fun kn pm hk => (by
    simp only [kwT] at hk
    rcases ite_opt hk with ⟨⟨e, rfl⟩, rfl⟩ | hk
    · exact absurd e (by decide +kernel)
    rcases ite_opt hk with ⟨⟨e, rfl⟩, rfl⟩ | hk
    · exact absurd e (by decide +kernel)
    rcases ite_opt hk with ⟨⟨e, rfl⟩, rfl⟩ | hk
    · exact absurd e (by decide +kernel)
    rcases ite_opt hk with ⟨⟨e, rfl⟩, rfl⟩ | hk
    · exact absurd e (by decide +kernel)
    rcases ite_opt hk with ⟨⟨e, rfl⟩, rfl⟩ | hk
    · exact absurd e (by decide +kernel)
    rcases ite_opt hk with ⟨⟨e, rfl⟩, rfl⟩ | hk
    · exact absurd e (by decide +kernel)
    cases hk), PySem.W.mg_of X G a56⟩
  refine ⟨PySem.W.fnOf "law" "law" (defArgs s_law) (defBody s_law) (defScope s_law) .none kV56 dc56 pm56 an56 cd56 ct56, fun s v => .of_eq rfl, fun base sm kb gb => ?_⟩
  have gd : Gd w K mg base := ⟨sm, fun x hx => (by
    simp only [ecT, ecL, List.any_cons, List.any_nil, Bool.or_false, Bool.or_eq_true, decide_eq_true_eq] at hx
    rcases hx with rfl
    · exact ⟨_, PySem.W.mg_of X G x0_⟩), fun x d hx => (by
    simp only [csT] at hx
    rcases ite_opt hx with ⟨rfl, rfl⟩ | hx
    · exact ⟨.int 6, (.int 6 u0), PySem.W.mg_of X G y0, ⟨_, rfl⟩, fun H => .int _⟩
    rcases ite_opt hx with ⟨rfl, rfl⟩ | hx
    · exact ⟨.int 9, (.int 9 u1), PySem.W.mg_of X G y1, ⟨_, rfl⟩, fun H => .int _⟩
    cases hx), fun x T hx => (by
    simp only [dsT] at hx
    cases hx), fun x hx => by
    simp only [frT, frL, List.any_cons, List.any_nil, Bool.or_false, Bool.or_eq_true, decide_eq_true_eq] at hx
    rcases hx with rfl | rfl | rfl | rfl | rfl | rfl | rfl | rfl | rfl | rfl | rfl | rfl | rfl | rfl
    · exact PySem.W.mg_none_of X G z0
    · exact PySem.W.mg_none_of X G z1
    · exact PySem.W.mg_none_of X G z2
    · exact PySem.W.mg_none_of X G z3
    · exact PySem.W.mg_none_of X G z4
    · exact PySem.W.mg_none_of X G z5
    · exact PySem.W.mg_none_of X G z6
    · exact PySem.W.mg_none_of X G z7
    · exact PySem.W.mg_none_of X G z8
    · exact PySem.W.mg_none_of X G z9
    · exact PySem.W.mg_none_of X G z10
    · exact PySem.W.mg_none_of X G z11
    · exact PySem.W.mg_none_of X G z12
    · exact PySem.W.mg_none_of X G z13⟩
  have g_is_whole := ok_is_whole (P := l.prog) (w := w) gd T0 
  have h_is_whole : FsOk l.prog w K mg base 1 "is_whole" 1 false F_is_whole := ⟨rfl, _, _, p_is_whole, g_is_whole, rfl, T0.mgx, T0.fu.kp, T0.bi, T0.kw⟩
  have g_is_below := ok_is_below (P := l.prog) (w := w) gd T1 h_is_whole
  have h_is_below : FsOk l.prog w K mg base 2 "is_below" 2 false F_is_below := ⟨rfl, _, _, p_is_below, g_is_below, rfl, T1.mgx, T1.fu.kp, T1.bi, T1.kw⟩
  have g_is_pair := ok_is_pair (P := l.prog) (w := w) gd T2 
  have h_is_pair : FsOk l.prog w K mg base 1 "is_pair" 1 false F_is_pair := ⟨rfl, _, _, p_is_pair, g_is_pair, rfl, T2.mgx, T2.fu.kp, T2.bi, T2.kw⟩
  have g_is_triple := ok_is_triple (P := l.prog) (w := w) gd T3 
  have h_is_triple : FsOk l.prog w K mg base 1 "is_triple" 1 false F_is_triple := ⟨rfl, _, _, p_is_triple, g_is_triple, rfl, T3.mgx, T3.fu.kp, T3.bi, T3.kw⟩
  have g_is_street := ok_is_street (P := l.prog) (w := w) gd T4 h_is_pair h_is_below
  have h_is_street : FsOk l.prog w K mg base 3 "is_street" 2 false F_is_street := ⟨rfl, _, _, p_is_street, g_is_street, rfl, T4.mgx, T4.fu.kp, T4.bi, T4.kw⟩
  have g_are_streets := ok_are_streets (P := l.prog) (w := w) gd T5 h_is_street
  have h_are_streets : FsOk l.prog w K mg base 4 "are_streets" 2 false F_are_streets := ⟨rfl, _, _, p_are_streets, g_are_streets, rfl, T5.mgx, T5.fu.kp, T5.bi, T5.kw⟩
  have g_ways_from := ok_ways_from (P := l.prog) (w := w) gd T6 
  have h_ways_from : FsOk l.prog w K mg base 1 "ways_from" 2 false F_ways_from := ⟨rfl, _, _, p_ways_from, g_ways_from, rfl, T6.mgx, T6.fu.kp, T6.bi, T6.kw⟩
  have g_towns_from := ok_towns_from (P := l.prog) (w := w) gd T7 h_ways_from
  have h_towns_from : FsOk l.prog w K mg base 2 "towns_from" 2 false F_towns_from := ⟨rfl, _, _, p_towns_from, g_towns_from, rfl, T7.mgx, T7.fu.kp, T7.bi, T7.kw⟩
  have g_both_ways := ok_both_ways (P := l.prog) (w := w) gd T8 
  have h_both_ways : FsOk l.prog w K mg base 1 "both_ways" 1 false F_both_ways := ⟨rfl, _, _, p_both_ways, g_both_ways, rfl, T8.mgx, T8.fu.kp, T8.bi, T8.kw⟩
  have g_hang_together := ok_hang_together (P := l.prog) (w := w) gd T9 h_towns_from h_both_ways
  have h_hang_together : FsOk l.prog w K mg base 3 "hang_together" 2 false F_hang_together := ⟨rfl, _, _, p_hang_together, g_hang_together, rfl, T9.mgx, T9.fu.kp, T9.bi, T9.kw⟩
  have g_is_plan := ok_is_plan (P := l.prog) (w := w) gd T10 h_is_pair h_are_streets h_hang_together h_is_below
  have h_is_plan : FsOk l.prog w K mg base 5 "is_plan" 1 false F_is_plan := ⟨rfl, _, _, p_is_plan, g_is_plan, rfl, T10.mgx, T10.fu.kp, T10.bi, T10.kw⟩
  have g_need_plan := ok_need_plan (P := l.prog) (w := w) gd T11 h_is_plan
  have h_need_plan : FsOk l.prog w K mg base 6 "need_plan" 1 false F_need_plan := ⟨rfl, _, _, p_need_plan, g_need_plan, rfl, T11.mgx, T11.fu.kp, T11.bi, T11.kw⟩
  have g_is_signing := ok_is_signing (P := l.prog) (w := w) gd T12 h_need_plan h_is_below
  have h_is_signing : FsOk l.prog w K mg base 7 "is_signing" 2 false F_is_signing := ⟨rfl, _, _, p_is_signing, g_is_signing, rfl, T12.mgx, T12.fu.kp, T12.bi, T12.kw⟩
  have g_need_signing := ok_need_signing (P := l.prog) (w := w) gd T13 h_is_signing
  have h_need_signing : FsOk l.prog w K mg base 8 "need_signing" 2 false F_need_signing := ⟨rfl, _, _, p_need_signing, g_need_signing, rfl, T13.mgx, T13.fu.kp, T13.bi, T13.kw⟩
  have g_need_signings := ok_need_signings (P := l.prog) (w := w) gd T14 h_need_signing
  have h_need_signings : FsOk l.prog w K mg base 9 "need_signings" 3 false F_need_signings := ⟨rfl, _, _, p_need_signings, g_need_signings, rfl, T14.mgx, T14.fu.kp, T14.bi, T14.kw⟩
  have g_paths_of := ok_paths_of (P := l.prog) (w := w) gd T15 
  have h_paths_of : FsOk l.prog w K mg base 1 "paths_of" 2 false F_paths_of := ⟨rfl, _, _, p_paths_of, g_paths_of, rfl, T15.mgx, T15.fu.kp, T15.bi, T15.kw⟩
  have g_outs_of := ok_outs_of (P := l.prog) (w := w) gd T16 h_paths_of
  have h_outs_of : FsOk l.prog w K mg base 2 "outs_of" 2 false F_outs_of := ⟨rfl, _, _, p_outs_of, g_outs_of, rfl, T16.mgx, T16.fu.kp, T16.bi, T16.kw⟩
  have g_outs := ok_outs (P := l.prog) (w := w) gd T17 h_need_signing h_outs_of
  have h_outs : FsOk l.prog w K mg base 9 "outs" 2 false F_outs := ⟨rfl, _, _, p_outs, g_outs, rfl, T17.mgx, T17.fu.kp, T17.bi, T17.kw⟩
  have g_is_rising := ok_is_rising (P := l.prog) (w := w) gd T18 h_is_below
  have h_is_rising : FsOk l.prog w K mg base 3 "is_rising" 2 false F_is_rising := ⟨rfl, _, _, p_is_rising, g_is_rising, rfl, T18.mgx, T18.fu.kp, T18.bi, T18.kw⟩
  have g_lead_round := ok_lead_round (P := l.prog) (w := w) gd T19 
  have h_lead_round : FsOk l.prog w K mg base 1 "lead_round" 1 false F_lead_round := ⟨rfl, _, _, p_lead_round, g_lead_round, rfl, T19.mgx, T19.fu.kp, T19.bi, T19.kw⟩
  have g_is_ring := ok_is_ring (P := l.prog) (w := w) gd T20 h_paths_of h_lead_round h_is_rising
  have h_is_ring : FsOk l.prog w K mg base 4 "is_ring" 3 false F_is_ring := ⟨rfl, _, _, p_is_ring, g_is_ring, rfl, T20.mgx, T20.fu.kp, T20.bi, T20.kw⟩
  have g_lead_out := ok_lead_out (P := l.prog) (w := w) gd T21 
  have h_lead_out : FsOk l.prog w K mg base 1 "lead_out" 2 false F_lead_out := ⟨rfl, _, _, p_lead_out, g_lead_out, rfl, T21.mgx, T21.fu.kp, T21.bi, T21.kw⟩
  have g_is_part := ok_is_part (P := l.prog) (w := w) gd T22 h_is_rising
  have h_is_part : FsOk l.prog w K mg base 4 "is_part" 2 false F_is_part := ⟨rfl, _, _, p_is_part, g_is_part, rfl, T22.mgx, T22.fu.kp, T22.bi, T22.kw⟩
  have g_is_shore := ok_is_shore (P := l.prog) (w := w) gd T23 h_is_part h_lead_out h_paths_of
  have h_is_shore : FsOk l.prog w K mg base 5 "is_shore" 3 false F_is_shore := ⟨rfl, _, _, p_is_shore, g_is_shore, rfl, T23.mgx, T23.fu.kp, T23.bi, T23.kw⟩
  have g_is_turn := ok_is_turn (P := l.prog) (w := w) gd T24 h_is_pair h_is_ring h_is_shore
  have h_is_turn : FsOk l.prog w K mg base 6 "is_turn" 3 false F_is_turn := ⟨rfl, _, _, p_is_turn, g_is_turn, rfl, T24.mgx, T24.fu.kp, T24.bi, T24.kw⟩
  have g_is_led_otherwise := ok_is_led_otherwise (P := l.prog) (w := w) gd T25 
  have h_is_led_otherwise : FsOk l.prog w K mg base 1 "is_led_otherwise" 3 false F_is_led_otherwise := ⟨rfl, _, _, p_is_led_otherwise, g_is_led_otherwise, rfl, T25.mgx, T25.fu.kp, T25.bi, T25.kw⟩
  have g_signing_behind_turn := ok_signing_behind_turn (P := l.prog) (w := w) gd T26 h_is_led_otherwise
  have h_signing_behind_turn : FsOk l.prog w K mg base 2 "signing_behind_turn" 3 false F_signing_behind_turn := ⟨rfl, _, _, p_signing_behind_turn, g_signing_behind_turn, rfl, T26.mgx, T26.fu.kp, T26.bi, T26.kw⟩
  have g_signing_behind_row := ok_signing_behind_row (P := l.prog) (w := w) gd T27 h_signing_behind_turn h_is_turn
  have h_signing_behind_row : FsOk l.prog w K mg base 7 "signing_behind_row" 3 false F_signing_behind_row := ⟨rfl, _, _, p_signing_behind_row, g_signing_behind_row, rfl, T27.mgx, T27.fu.kp, T27.bi, T27.kw⟩
  have g_leads_there := ok_leads_there (P := l.prog) (w := w) gd T28 h_signing_behind_row
  have h_leads_there : FsOk l.prog w K mg base 8 "leads_there" 5 false F_leads_there := ⟨rfl, _, _, p_leads_there, g_leads_there, rfl, T28.mgx, T28.fu.kp, T28.bi, T28.kw⟩
  have g_steps_from := ok_steps_from (P := l.prog) (w := w) gd T29 h_is_below
  have h_steps_from : FsOk l.prog w K mg base 3 "steps_from" 3 false F_steps_from := ⟨rfl, _, _, p_steps_from, g_steps_from, rfl, T29.mgx, T29.fu.kp, T29.bi, T29.kw⟩
  have g_steps_of := ok_steps_of (P := l.prog) (w := w) gd T30 h_steps_from h_is_pair h_is_below
  have h_steps_of : FsOk l.prog w K mg base 4 "steps_of" 2 false F_steps_of := ⟨rfl, _, _, p_steps_of, g_steps_of, rfl, T30.mgx, T30.fu.kp, T30.bi, T30.kw⟩
  have g_lead_of := ok_lead_of (P := l.prog) (w := w) gd T31 
  have h_lead_of : FsOk l.prog w K mg base 1 "lead_of" 2 false F_lead_of := ⟨rfl, _, _, p_lead_of, g_lead_of, rfl, T31.mgx, T31.fu.kp, T31.bi, T31.kw⟩
  have g_lead := ok_lead (P := l.prog) (w := w) gd T32 h_need_signing h_steps_of h_lead_of
  have h_lead : FsOk l.prog w K mg base 9 "lead" 3 false F_lead := ⟨rfl, _, _, p_lead, g_lead, rfl, T32.mgx, T32.fu.kp, T32.bi, T32.kw⟩
  have g_ways_to_towns := ok_ways_to_towns (P := l.prog) (w := w) gd T33 h_ways_from h_both_ways
  have h_ways_to_towns : FsOk l.prog w K mg base 2 "ways_to_towns" 1 false F_ways_to_towns := ⟨rfl, _, _, p_ways_to_towns, g_ways_to_towns, rfl, T33.mgx, T33.fu.kp, T33.bi, T33.kw⟩
  have g_climb := ok_climb (P := l.prog) (w := w) gd T34 h_steps_from h_lead_of
  have h_climb : FsOk l.prog w K mg base 4 "climb" 4 false F_climb := ⟨rfl, _, _, p_climb, g_climb, rfl, T34.mgx, T34.fu.kp, T34.bi, T34.kw⟩
  have g_levels_between := ok_levels_between (P := l.prog) (w := w) gd T35 h_climb h_ways_to_towns
  have h_levels_between : FsOk l.prog w K mg base 5 "levels_between" 3 false F_levels_between := ⟨rfl, _, _, p_levels_between, g_levels_between, rfl, T35.mgx, T35.fu.kp, T35.bi, T35.kw⟩
  have g_unfit_streets := ok_unfit_streets (P := l.prog) (w := w) gd T36 
  have h_unfit_streets : FsOk l.prog w K mg base 1 "unfit_streets" 4 false F_unfit_streets := ⟨rfl, _, _, p_unfit_streets, g_unfit_streets, rfl, T36.mgx, T36.fu.kp, T36.bi, T36.kw⟩
  have g_heights := ok_heights (P := l.prog) (w := w) gd T37 h_need_signings h_levels_between h_unfit_streets
  have h_heights : FsOk l.prog w K mg base 10 "heights" 3 false F_heights := ⟨rfl, _, _, p_heights, g_heights, rfl, T37.mgx, T37.fu.kp, T37.bi, T37.kw⟩
  have g_towns_up_to := ok_towns_up_to (P := l.prog) (w := w) gd T38 
  have h_towns_up_to : FsOk l.prog w K mg base 1 "towns_up_to" 2 false F_towns_up_to := ⟨rfl, _, _, p_towns_up_to, g_towns_up_to, rfl, T38.mgx, T38.fu.kp, T38.bi, T38.kw⟩
  have g_shores_up := ok_shores_up (P := l.prog) (w := w) gd T39 h_towns_up_to
  have h_shores_up : FsOk l.prog w K mg base 2 "shores_up" 1 false F_shores_up := ⟨rfl, _, _, p_shores_up, g_shores_up, rfl, T39.mgx, T39.fu.kp, T39.bi, T39.kw⟩
  have g_streets_round := ok_streets_round (P := l.prog) (w := w) gd T40 h_ways_to_towns
  have h_streets_round : FsOk l.prog w K mg base 3 "streets_round" 2 false F_streets_round := ⟨rfl, _, _, p_streets_round, g_streets_round, rfl, T40.mgx, T40.fu.kp, T40.bi, T40.kw⟩
  have g_by_shores := ok_by_shores (P := l.prog) (w := w) gd T41 h_need_signings h_levels_between h_unfit_streets h_shores_up h_streets_round
  have h_by_shores : FsOk l.prog w K mg base 10 "by_shores" 3 false F_by_shores := ⟨rfl, _, _, p_by_shores, g_by_shores, rfl, T41.mgx, T41.fu.kp, T41.bi, T41.kw⟩
  have g_is_unlike_round := ok_is_unlike_round (P := l.prog) (w := w) gd T42 h_steps_of h_lead_of
  have h_is_unlike_round : FsOk l.prog w K mg base 5 "is_unlike_round" 4 false F_is_unlike_round := ⟨rfl, _, _, p_is_unlike_round, g_is_unlike_round, rfl, T42.mgx, T42.fu.kp, T42.bi, T42.kw⟩
  have g_shows_by_shores := ok_shows_by_shores (P := l.prog) (w := w) gd T43 h_need_signings h_is_pair h_is_triple h_is_unlike_round h_leads_there
  have h_shows_by_shores : FsOk l.prog w K mg base 10 "shows_by_shores" 4 false F_shows_by_shores := ⟨rfl, _, _, p_shows_by_shores, g_shows_by_shores, rfl, T43.mgx, T43.fu.kp, T43.bi, T43.kw⟩
  have g_ring_through := ok_ring_through (P := l.prog) (w := w) gd T44 h_ways_from
  have h_ring_through : FsOk l.prog w K mg base 2 "ring_through" 3 false F_ring_through := ⟨rfl, _, _, p_ring_through, g_ring_through, rfl, T44.mgx, T44.fu.kp, T44.bi, T44.kw⟩
  have g_unlike_places := ok_unlike_places (P := l.prog) (w := w) gd T45 
  have h_unlike_places : FsOk l.prog w K mg base 1 "unlike_places" 2 false F_unlike_places := ⟨rfl, _, _, p_unlike_places, g_unlike_places, rfl, T45.mgx, T45.fu.kp, T45.bi, T45.kw⟩
  have g_rings_between := ok_rings_between (P := l.prog) (w := w) gd T46 h_paths_of h_unlike_places h_ring_through
  have h_rings_between : FsOk l.prog w K mg base 3 "rings_between" 3 false F_rings_between := ⟨rfl, _, _, p_rings_between, g_rings_between, rfl, T46.mgx, T46.fu.kp, T46.bi, T46.kw⟩
  have g_unlike_towns := ok_unlike_towns (P := l.prog) (w := w) gd T47 h_unlike_places h_outs
  have h_unlike_towns : FsOk l.prog w K mg base 10 "unlike_towns" 3 false F_unlike_towns := ⟨rfl, _, _, p_unlike_towns, g_unlike_towns, rfl, T47.mgx, T47.fu.kp, T47.bi, T47.kw⟩
  have g_by_rings := ok_by_rings (P := l.prog) (w := w) gd T48 h_need_signings h_unlike_towns h_rings_between
  have h_by_rings : FsOk l.prog w K mg base 11 "by_rings" 3 false F_by_rings := ⟨rfl, _, _, p_by_rings, g_by_rings, rfl, T48.mgx, T48.fu.kp, T48.bi, T48.kw⟩
  have g_shows_by_rings := ok_shows_by_rings (P := l.prog) (w := w) gd T49 h_need_signings h_is_pair h_leads_there h_is_below h_unlike_towns
  have h_shows_by_rings : FsOk l.prog w K mg base 11 "shows_by_rings" 4 false F_shows_by_rings := ⟨rfl, _, _, p_shows_by_rings, g_shows_by_rings, rfl, T49.mgx, T49.fu.kp, T49.bi, T49.kw⟩
  have g__law_cell_at := ok__law_cell_at (P := l.prog) (w := w) gd T50 
  have h__law_cell_at : FsOk l.prog w K mg base 1 "_law_cell_at" 2 false F__law_cell_at := ⟨rfl, _, _, p__law_cell_at, g__law_cell_at, rfl, T50.mgx, T50.fu.kp, T50.bi, T50.kw⟩
  have g__law_pen := ok__law_pen (P := l.prog) (w := w) gd T51 
  have h__law_pen : FsOk l.prog w K mg base 1 "_law_pen" 1 false F__law_pen := ⟨rfl, _, _, p__law_pen, g__law_pen, rfl, T51.mgx, T51.fu.kp, T51.bi, T51.kw⟩
  have g__law_draw := ok__law_draw (P := l.prog) (w := w) gd T52 
  have h__law_draw : FsOk l.prog w K mg base 1 "_law_draw" 2 true F__law_draw := ⟨rfl, _, _, p__law_draw, g__law_draw, rfl, T52.mgx, T52.fu.kp, T52.bi, T52.kw⟩
  have g__law_rings_right := ok__law_rings_right (P := l.prog) (w := w) gd T53 h_shows_by_rings h_by_rings
  have h__law_rings_right : FsOk l.prog w K mg base 12 "_law_rings_right" 1 false F__law_rings_right := ⟨rfl, _, _, p__law_rings_right, g__law_rings_right, rfl, T53.mgx, T53.fu.kp, T53.bi, T53.kw⟩
  have g__law_shores_right := ok__law_shores_right (P := l.prog) (w := w) gd T54 h_heights h_shows_by_shores h_by_shores h_lead
  have h__law_shores_right : FsOk l.prog w K mg base 11 "_law_shores_right" 1 false F__law_shores_right := ⟨rfl, _, _, p__law_shores_right, g__law_shores_right, rfl, T54.mgx, T54.fu.kp, T54.bi, T54.kw⟩
  have g__law_two_right := ok__law_two_right (P := l.prog) (w := w) gd T55 h_heights h_by_rings
  have h__law_two_right : FsOk l.prog w K mg base 12 "_law_two_right" 1 false F__law_two_right := ⟨rfl, _, _, p__law_two_right, g__law_two_right, rfl, T55.mgx, T55.fu.kp, T55.bi, T55.kw⟩
  have g_law := ok_law (P := l.prog) (w := w) gd T56 h__law_draw h__law_pen h_heights h_by_shores h__law_cell_at h__law_rings_right h__law_shores_right h__law_two_right
  have h_law : FsOk l.prog w K mg base 13 "law" 1 false F_law := ⟨rfl, _, _, p_law, g_law, rfl, T56.mgx, T56.fu.kp, T56.bi, T56.kw⟩
  exact g_law
end LW
open PySem PySem.W PyProof.Rows
set_option maxHeartbeats 0 in
theorem PySem.Challenge.cw_ringshores_k26_rings_and_shores_by_hand_holds : PySem.Challenge.rw_ringshores_k26_rings_and_shores_by_hand.Holds := by
  w_on; o_law; k_head; (case hw => w_witness2)
  k_fill
  refine PV.walk_G (l := PySem.Challenge.rw_ringshores_k26_rings_and_shores_by_hand) (n := 63) (k := 13) (x := "_law_script") (F := LW.F_law) rfl (by decide) rfl ⟨rfl, by decide, by decide⟩ (by decide +kernel) (fun w h Y => PySem.W.kIn_of Y) ?F rfl LW.law_true
  case F =>
    intro w mg fa h KX G hmg
    refine' LW.all_mk KX G hmg ?a0 ?l0 ?c0 ?k0 ?a1 ?l1 ?c1 ?k1 ?a2 ?l2 ?c2 ?k2 ?a3 ?l3 ?c3 ?k3 ?a4 ?l4 ?c4 ?k4 ?a5 ?l5 ?c5 ?k5 ?a6 ?l6 ?c6 ?k6 ?a7 ?l7 ?c7 ?k7 ?a8 ?l8 ?c8 ?k8 ?a9 ?l9 ?c9 ?k9 ?a10 ?l10 ?c10 ?k10 ?a11 ?l11 ?c11 ?k11 ?a12 ?l12 ?c12 ?k12 ?a13 ?l13 ?c13 ?k13 ?a14 ?l14 ?c14 ?k14 ?a15 ?l15 ?c15 ?k15 ?a16 ?l16 ?c16 ?k16 ?a17 ?l17 ?c17 ?k17 ?a18 ?l18 ?c18 ?k18 ?a19 ?l19 ?c19 ?k19 ?a20 ?l20 ?c20 ?k20 ?a21 ?l21 ?c21 ?k21 ?a22 ?l22 ?c22 ?k22 ?a23 ?l23 ?c23 ?k23 ?a24 ?l24 ?c24 ?k24 ?a25 ?l25 ?c25 ?k25 ?a26 ?l26 ?c26 ?k26 ?a27 ?l27 ?c27 ?k27 ?a28 ?l28 ?c28 ?k28 ?a29 ?l29 ?c29 ?k29 ?a30 ?l30 ?c30 ?k30 ?a31 ?l31 ?c31 ?k31 ?a32 ?l32 ?c32 ?k32 ?a33 ?l33 ?c33 ?k33 ?a34 ?l34 ?c34 ?k34 ?a35 ?l35 ?c35 ?k35 ?a36 ?l36 ?c36 ?k36 ?a37 ?l37 ?c37 ?k37 ?a38 ?l38 ?c38 ?k38 ?a39 ?l39 ?c39 ?k39 ?a40 ?l40 ?c40 ?k40 ?a41 ?l41 ?c41 ?k41 ?a42 ?l42 ?c42 ?k42 ?a43 ?l43 ?c43 ?k43 ?a44 ?l44 ?c44 ?k44 ?a45 ?l45 ?c45 ?k45 ?a46 ?l46 ?c46 ?k46 ?a47 ?l47 ?c47 ?k47 ?a48 ?l48 ?c48 ?k48 ?a49 ?l49 ?c49 ?k49 ?a50 ?l50 ?c50 ?k50 ?a51 ?l51 ?c51 ?k51 ?a52 ?l52 ?c52 ?k52 ?a53 ?l53 ?c53 ?k53 ?a54 ?l54 ?c54 ?k54 ?a55 ?l55 ?c55 ?k55 ?a56 ?l56 ?c56 ?k56 ?z0 ?z1 ?z2 ?z3 ?z4 ?z5 ?z6 ?z7 ?z8 ?z9 ?z10 ?z11 ?z12 ?z13 ?x0_ ?y0 ?y1
    (case a0 => k_is); (case l0 => k_is); (case c0 => k_is); (case k0 => k_is); (case a1 => k_is); (case l1 => k_is); (case c1 => k_is); (case k1 => k_is); (case a2 => k_is); (case l2 => k_is); (case c2 => k_is); (case k2 => k_is); (case a3 => k_is); (case l3 => k_is); (case c3 => k_is); (case k3 => k_is); (case a4 => k_is); (case l4 => k_is); (case c4 => k_is); (case k4 => k_is); (case a5 => k_is); (case l5 => k_is); (case c5 => k_is); (case k5 => k_is); (case a6 => k_is); (case l6 => k_is); (case c6 => k_is); (case k6 => k_is); (case a7 => k_is); (case l7 => k_is); (case c7 => k_is); (case k7 => k_is); (case a8 => k_is); (case l8 => k_is); (case c8 => k_is); (case k8 => k_is); (case a9 => k_is); (case l9 => k_is); (case c9 => k_is); (case k9 => k_is); (case a10 => k_is); (case l10 => k_is); (case c10 => k_is); (case k10 => k_is); (case a11 => k_is); (case l11 => k_is); (case c11 => k_is); (case k11 => k_is); (case a12 => k_is); (case l12 => k_is); (case c12 => k_is); (case k12 => k_is); (case a13 => k_is); (case l13 => k_is); (case c13 => k_is); (case k13 => k_is); (case a14 => k_is); (case l14 => k_is); (case c14 => k_is); (case k14 => k_is); (case a15 => k_is); (case l15 => k_is); (case c15 => k_is); (case k15 => k_is); (case a16 => k_is); (case l16 => k_is); (case c16 => k_is); (case k16 => k_is); (case a17 => k_is); (case l17 => k_is); (case c17 => k_is); (case k17 => k_is); (case a18 => k_is); (case l18 => k_is); (case c18 => k_is); (case k18 => k_is); (case a19 => k_is); (case l19 => k_is); (case c19 => k_is); (case k19 => k_is); (case a20 => k_is); (case l20 => k_is); (case c20 => k_is); (case k20 => k_is); (case a21 => k_is); (case l21 => k_is); (case c21 => k_is); (case k21 => k_is); (case a22 => k_is); (case l22 => k_is); (case c22 => k_is); (case k22 => k_is); (case a23 => k_is); (case l23 => k_is); (case c23 => k_is); (case k23 => k_is); (case a24 => k_is); (case l24 => k_is); (case c24 => k_is); (case k24 => k_is); (case a25 => k_is); (case l25 => k_is); (case c25 => k_is); (case k25 => k_is); (case a26 => k_is); (case l26 => k_is); (case c26 => k_is); (case k26 => k_is); (case a27 => k_is); (case l27 => k_is); (case c27 => k_is); (case k27 => k_is); (case a28 => k_is); (case l28 => k_is); (case c28 => k_is); (case k28 => k_is); (case a29 => k_is); (case l29 => k_is); (case c29 => k_is); (case k29 => k_is); (case a30 => k_is); (case l30 => k_is); (case c30 => k_is); (case k30 => k_is); (case a31 => k_is); (case l31 => k_is); (case c31 => k_is); (case k31 => k_is); (case a32 => k_is); (case l32 => k_is); (case c32 => k_is); (case k32 => k_is); (case a33 => k_is); (case l33 => k_is); (case c33 => k_is); (case k33 => k_is); (case a34 => k_is); (case l34 => k_is); (case c34 => k_is); (case k34 => k_is); (case a35 => k_is); (case l35 => k_is); (case c35 => k_is); (case k35 => k_is); (case a36 => k_is); (case l36 => k_is); (case c36 => k_is); (case k36 => k_is); (case a37 => k_is); (case l37 => k_is); (case c37 => k_is); (case k37 => k_is); (case a38 => k_is); (case l38 => k_is); (case c38 => k_is); (case k38 => k_is); (case a39 => k_is); (case l39 => k_is); (case c39 => k_is); (case k39 => k_is); (case a40 => k_is); (case l40 => k_is); (case c40 => k_is); (case k40 => k_is); (case a41 => k_is); (case l41 => k_is); (case c41 => k_is); (case k41 => k_is); (case a42 => k_is); (case l42 => k_is); (case c42 => k_is); (case k42 => k_is); (case a43 => k_is); (case l43 => k_is); (case c43 => k_is); (case k43 => k_is); (case a44 => k_is); (case l44 => k_is); (case c44 => k_is); (case k44 => k_is); (case a45 => k_is); (case l45 => k_is); (case c45 => k_is); (case k45 => k_is); (case a46 => k_is); (case l46 => k_is); (case c46 => k_is); (case k46 => k_is); (case a47 => k_is); (case l47 => k_is); (case c47 => k_is); (case k47 => k_is); (case a48 => k_is); (case l48 => k_is); (case c48 => k_is); (case k48 => k_is); (case a49 => k_is); (case l49 => k_is); (case c49 => k_is); (case k49 => k_is); (case a50 => k_is); (case l50 => k_is); (case c50 => k_is); (case k50 => k_is); (case a51 => k_is); (case l51 => k_is); (case c51 => k_is); (case k51 => k_is); (case a52 => k_is); (case l52 => k_is); (case c52 => k_is); (case k52 => k_is); (case a53 => k_is); (case l53 => k_is); (case c53 => k_is); (case k53 => k_is); (case a54 => k_is); (case l54 => k_is); (case c54 => k_is); (case k54 => k_is); (case a55 => k_is); (case l55 => k_is); (case c55 => k_is); (case k55 => k_is); (case a56 => k_is); (case l56 => k_is); (case c56 => k_is); (case k56 => k_is); (case z0 => k_is); (case z1 => k_is); (case z2 => k_is); (case z3 => k_is); (case z4 => k_is); (case z5 => k_is); (case z6 => k_is); (case z7 => k_is); (case z8 => k_is); (case z9 => k_is); (case z10 => k_is); (case z11 => k_is); (case z12 => k_is); (case z13 => k_is); (case x0_ => k_is); (case y0 => k_is); (case y1 => k_is)
