import PyProof.Rows.All
import Wide.All
import OpenK.AllK
import Wide.FinOn
import HandS.ForMost
import HandS.IsInst
import HandS.TupAny
import HandS.Deep
import HandS.Zip
import HandS.Style
import KE.KRevSl
import PySem.Challenge.RW_poolbook_k01_what_are_houses
set_option Elab.async false
set_option linter.all false
set_option maxRecDepth 100000
set_option maxHeartbeats 4000000
/-! Own layer: what an expression, a test, a statement of the program does to data, as a plain function; its soundness over the hand layer. -/
namespace PB
open PySem PySem.Spec PyProof.Rows L2

abbrev D := PyData
abbrev Frag := PySem.W.Frag
abbrev SS := L2.St

/-- what a slot is known to hold: data; or a list of its own, that may be changed (par: it came as an argument) -/
inductive Sl where
  | val (d : D)
  | own (par : Bool) (ds : List D)
abbrev Sg := List (Option Sl)

def Own (σ : SS) (e : Sg) (a : Addr) : Prop := ∃ (i : Nat) (b : Bool) (ds : List D), e[i]? = some (some (.own b ds)) ∧ σ[i]? = some (some (.ref a))
open Classical in
noncomputable def cut (H : Hp) (F : Addr → Prop) : Hp := fun a => if F a then none else H a
theorem cut_iff {H : Hp} {F : Addr → Prop} {a : Addr} {o : HO} : cut H F a = some o ↔ ¬ F a ∧ H a = some o := by
  unfold cut
  split <;> simp_all
theorem cut_of {H : Hp} {F : Addr → Prop} {a : Addr} {o : HO} (h1 : ¬ F a) (h2 : H a = some o) : cut H F a = some o := cut_iff.mpr ⟨h1, h2⟩
theorem same_cut {H : Hp} {F : Addr → Prop} : Same (cut H F) H := fun _ _ h => (cut_iff.mp h).2
theorem same_cuts {H H' : Hp} {F : Addr → Prop} (s : Same H H') : Same (cut H F) (cut H' F) := fun a o h => cut_of (cut_iff.mp h).1 (s a o (cut_iff.mp h).2)

theorem same_tup {K : Frag} {H H' : Hp} {a : Addr} {xs : List V} (e : Same H H') (h : SqT K H a xs) : SqT K H' a xs := by
  rcases h with (h | ⟨o, h⟩) | h
  · exact .inl (.inl (e _ _ h))
  · exact .inl (.inr ⟨o, e _ _ h⟩)
  · exact .inr h
mutual
theorem dp_mono {K : Frag} {H H' : Hp} (s : Same H H') : ∀ {v : V} {d : D}, Dp K H v d → Dp K H' v d
  | _, _, .non => .non
  | _, _, .bl b => .bl b
  | _, _, .int i => .int i
  | _, _, .str x => .str x
  | _, _, .lst h t => .lst (s.seq h) (dpa_mono s t)
  | _, _, .tup h t => .tup (same_tup s h) (dpa_mono s t)
theorem dpa_mono {K : Frag} {H H' : Hp} (s : Same H H') : ∀ {v : List V} {d : List D}, DpAll K H v d → DpAll K H' v d
  | _, _, .nil => .nil
  | _, _, .cons h t => .cons (dp_mono s h) (dpa_mono s t)
end
theorem dpa_len {K : Frag} {H : Hp} : ∀ {v : List V} {d : List D}, DpAll K H v d → v.length = d.length
  | _, _, .nil => rfl
  | _, _, .cons _ t => by rw [List.length_cons, List.length_cons, dpa_len t]
theorem dpa_get {K : Frag} {H : Hp} : ∀ {v : List V} {d : List D} {i : Nat} {x : D}, DpAll K H v d → d[i]? = some x → ∃ u, v[i]? = some u ∧ Dp K H u x
  | _, _, _, _, .nil, h => by simp at h
  | _, _, 0, _, .cons h t, e => by
    simp only [List.length_cons, Nat.zero_lt_succ, getElem?_pos, List.getElem_cons_zero, Option.some.injEq] at e
    subst e
    exact ⟨_, rfl, h⟩
  | _, _, i + 1, _, .cons h t, e => by
    rw [List.getElem?_cons_succ] at e ⊢
    exact dpa_get t e
theorem dpa_get' {K : Frag} {H : Hp} : ∀ {v : List V} {d : List D} {i : Nat} {u : V}, DpAll K H v d → v[i]? = some u → ∃ x, d[i]? = some x ∧ Dp K H u x
  | _, _, _, _, .nil, h => by simp at h
  | _, _, 0, _, .cons h t, e => by
    simp only [List.length_cons, Nat.zero_lt_succ, getElem?_pos, List.getElem_cons_zero, Option.some.injEq] at e
    subst e
    exact ⟨_, rfl, h⟩
  | _, _, i + 1, _, .cons h t, e => by
    rw [List.getElem?_cons_succ] at e ⊢
    exact dpa_get' t e
theorem dpa_app {K : Frag} {H : Hp} : ∀ {v w : List V} {d f : List D}, DpAll K H v d → DpAll K H w f → DpAll K H (v ++ w) (d ++ f)
  | _, _, _, _, .nil, h => h
  | _, _, _, _, .cons h t, u => .cons h (dpa_app t u)
theorem dpa_drop {K : Frag} {H : Hp} : ∀ {v : List V} {d : List D} (n : Nat), DpAll K H v d → DpAll K H (v.drop n) (d.drop n)
  | _, _, 0, h => h
  | _, _, _ + 1, .nil => .nil
  | _, _, n + 1, .cons _ t => dpa_drop n t
theorem dpa_take {K : Frag} {H : Hp} : ∀ {v : List V} {d : List D} (n : Nat), DpAll K H v d → DpAll K H (v.take n) (d.take n)
  | _, _, 0, _ => .nil
  | _, _, _ + 1, .nil => .nil
  | _, _, n + 1, .cons h t => .cons h (dpa_take n t)
theorem dpa_set {K : Frag} {H : Hp} {u : V} {x : D} (hu : Dp K H u x) : ∀ {v : List V} {d : List D} (n : Nat), DpAll K H v d → DpAll K H (v.set n u) (d.set n x)
  | _, _, _, .nil => .nil
  | _, _, 0, .cons _ t => .cons hu t
  | _, _, n + 1, .cons h t => .cons h (dpa_set hu n t)
theorem dpa_rev {K : Frag} {H : Hp} : ∀ {v : List V} {d : List D}, DpAll K H v d → DpAll K H v.reverse d.reverse
  | _, _, .nil => .nil
  | _, _, .cons h t => by
    rw [List.reverse_cons, List.reverse_cons]
    exact dpa_app (dpa_rev t) (.cons h .nil)

/-- what may be seen as data -/
noncomputable def vis (G : Addr → Prop) (σ : SS) (e : Sg) (H : Hp) : Hp := cut H (fun a => G a ∨ Own σ e a)

structure Rel (K : Frag) (G : Addr → Prop) (σ : SS) (H : Hp) (e : Sg) : Prop where
  len : σ.length = e.length
  val : ∀ (i : Nat) (d : D), e[i]? = some (some (.val d)) → ∃ v, σ[i]? = some (some v) ∧ Dp K (vis G σ e H) v d
  own : ∀ (i : Nat) (b : Bool) (ds : List D), e[i]? = some (some (.own b ds)) → ∃ p xs, σ[i]? = some (some (.ref p)) ∧ H p = some (.lst xs) ∧ DpAll K (vis G σ e H) xs ds ∧ ¬ G p
  sep : ∀ (i j : Nat) (b c : Bool) (ds es : List D) (p : Addr), e[i]? = some (some (.own b ds)) → e[j]? = some (some (.own c es)) → σ[i]? = some (some (.ref p)) → σ[j]? = some (some (.ref p)) → i = j
  frn : ∀ a, G a → H a ≠ none

structure Step (σ : SS) (e : Sg) (H : Hp) (σ' : SS) (e' : Sg) (H' : Hp) : Prop where
  keep : ∀ a o, H a = some o → ¬ Own σ e a → H' a = some o
  new : ∀ a, Own σ' e' a → Own σ e a ∨ H a = none
  there : ∀ a, H' a = none → H a = none
  par : ∀ (i : Nat) (ds : List D), e[i]? = some (some (.own true ds)) → σ'[i]? = σ[i]? ∧ ∃ ds', e'[i]? = some (some (.own true ds'))

section
variable {K : Frag} {G : Addr → Prop} {σ σ' σ'' : SS} {H H' H'' : Hp} {e e' e'' : Sg}
theorem Step.refl : Step σ e H σ e H := ⟨fun _ _ h _ => h, fun _ h => .inl h, fun _ h => h, fun _ ds h => ⟨rfl, ds, h⟩⟩
theorem Step.trans (a : Step σ e H σ' e' H') (b : Step σ' e' H' σ'' e'' H'') : Step σ e H σ'' e'' H'' where
  keep := fun x o h n => b.keep x o (a.keep x o h n) fun w => by
    rcases a.new x w with q | q
    · exact n q
    · rw [h] at q; cases q
  new := fun x w => by
    rcases b.new x w with q | q
    · exact a.new x q
    · exact .inr (a.there x q)
  there := fun x h => a.there x (b.there x h)
  par := fun i ds h => by
    obtain ⟨h1, ds1, h2⟩ := a.par i ds h
    obtain ⟨h3, ds2, h4⟩ := b.par i ds1 h2
    exact ⟨h3.trans h1, ds2, h4⟩
theorem Step.vis (a : Step σ e H σ' e' H') : Same (vis G σ e H) (PB.vis G σ' e' H') := fun x o h => by
  obtain ⟨h1, h2⟩ := cut_iff.mp h
  refine cut_of ?_ (a.keep x o h2 fun w => h1 (.inr w))
  rintro (w | w)
  · exact h1 (.inl w)
  · rcases a.new x w with q | q
    · exact h1 (.inr q)
    · rw [h2] at q; cases q
theorem Step.grow (s : Same H H') : Step σ e H σ e H' := ⟨fun a o h _ => s a o h, fun _ h => .inl h, fun a h => s.free h, fun _ ds h => ⟨rfl, ds, h⟩⟩
theorem Rel.grow (r : Rel K G σ H e) (s : Same H H') : Rel K G σ H' e where
  len := r.len
  val := fun i d h => by
    obtain ⟨v, h1, h2⟩ := r.val i d h
    exact ⟨v, h1, dp_mono (same_cuts s) h2⟩
  own := fun i b ds h => by
    obtain ⟨p, xs, h1, h2, h3, h4⟩ := r.own i b ds h
    exact ⟨p, xs, h1, s _ _ h2, dpa_mono (same_cuts s) h3, h4⟩
  sep := r.sep
  frn := fun a h q => r.frn a h (s.free q)
theorem Rel.ne0 (r : Rel K G σ H e) : ∀ a, (G a ∨ Own σ e a) → H a ≠ none := by
  rintro a (h | ⟨i, b, ds, h1, h2⟩)
  · exact r.frn a h
  · obtain ⟨p, xs, q1, q2, _⟩ := r.own i b ds h1
    rw [h2] at q1
    cases q1
    rw [q2]
    exact fun z => nomatch z
theorem same_vis : Same (PB.vis G σ e H) H := same_cut
/-- a new object is seen -/
theorem Rel.vis_new (r : Rel K G σ H e) {p : Addr} {o : HO} (hp : H p = none) : PB.vis G σ e (upd H p o) p = some o :=
  cut_of (fun w => r.ne0 p w hp) upd_same
theorem same_new {H : Hp} {p : Addr} {o : HO} (h : H p = none) : Same H (upd H p o) := fun b x e => by
  rw [upd_ne (ne_of_none e h)]
  exact e
end

/-! ### readings -/
abbrev ME := Sg → Option (D × Sg)
abbrev MT := Sg → Option (Bool × Sg)
abbrev ML := Sg → Option (List D × Sg)
/-- what a def hands back: data, or a new list that nobody else holds -/
inductive Rt where
  | val (d : D)
  | new (ds : List D)
inductive Out where
  | next | brk | cont | ret (r : Rt)
abbrev MS := Sg → Option (Out × Sg)

def RtRel (K : Frag) (F : Addr → Prop) (H H' : Hp) (v : V) : Rt → Prop
  | .val d => Dp K (cut H' F) v d
  | .new ds => ∃ p xs, v = .ref p ∧ H p = none ∧ H' p = some (.lst xs) ∧ DpAll K (cut H' (fun a => F a ∨ a = p)) xs ds

def tOf (K : Frag) (m : ME) : TE := fun σ H Q => ∃ G e d e', Rel K G σ H e ∧ m e = some (d, e') ∧ ∀ v H', Step σ e H σ e' H' → Rel K G σ H' e' → Dp K (vis G σ e' H') v d → Q v H'
def tTOf (K : Frag) (m : MT) : TT := fun σ H Q => ∃ G e b e', Rel K G σ H e ∧ m e = some (b, e') ∧ ∀ H', Step σ e H σ e' H' → Rel K G σ H' e' → Q b H'
/-- arguments, all of them data -/
def tAOf (K : Frag) (m : ML) : TA := fun σ H Q => ∃ G e ds e', Rel K G σ H e ∧ m e = some (ds, e') ∧ ∀ vs H', Step σ e H σ e' H' → Rel K G σ H' e' → DpAll K (vis G σ e' H') vs ds → Q vs H'
/-- a new list -/
def tNOf (K : Frag) (m : ML) : TE := fun σ H Q => ∃ G e ds e', Rel K G σ H e ∧ m e = some (ds, e') ∧ ∀ p xs H', Step σ e H σ e' H' → Rel K (fun a => G a ∨ a = p) σ H' e' → H p = none → H' p = some (.lst xs) →
  DpAll K (vis (fun a => G a ∨ a = p) σ e' H') xs ds → Q (.ref p) H'
def outs (K : Frag) (G : Addr → Prop) (σ : SS) (e : Sg) (H : Hp) (D : Ends) (o : Out) (e' : Sg) : Prop := match o with
  | .next => ∀ σ' H', Step σ e H σ' e' H' → Rel K G σ' H' e' → D.nx σ' H'
  | .brk => ∀ σ' H', Step σ e H σ' e' H' → Rel K G σ' H' e' → D.bk σ' H'
  | .cont => ∀ σ' H', Step σ e H σ' e' H' → Rel K G σ' H' e' → D.ct σ' H'
  | .ret r => ∀ v σ' H', Step σ e H σ' e' H' → Rel K G σ' H' e' → RtRel K (fun a => G a ∨ Own σ' e' a) H H' v r → D.rt v H'
def tSOf (K : Frag) (m : MS) : TS := fun D σ H => ∃ G e o e', Rel K G σ H e ∧ m e = some (o, e') ∧ outs K G σ e H D o e'

theorem PE.imp {X : Cx} {e : Expr} {t t' : TE} (h : PE X e t) (i : ∀ σ H Q, t' σ H Q → t σ H Q) : PE X e t' := ⟨fun pins s σ H Q I w => h.run pins s σ H Q I (i σ H Q w)⟩
theorem PT.imp {X : Cx} {e : Expr} {t t' : TT} (h : PT X e t) (i : ∀ σ H Q, t' σ H Q → t σ H Q) : PT X e t' := ⟨fun pins s σ H Q I w => h.run pins s σ H Q I (i σ H Q w)⟩
theorem PW.imp {X : Cx} {e : Expr} {t t' : TT} (h : PW X e t) (i : ∀ σ H Q, t' σ H Q → t σ H Q) : PW X e t' := ⟨fun wh pins s σ H Q I w => h.run wh pins s σ H Q I (i σ H Q w)⟩
theorem PA.imp {X : Cx} {e : List Expr} {t t' : TA} (h : PA X e t) (i : ∀ σ H Q, t' σ H Q → t σ H Q) : PA X e t' := ⟨fun pos pins s σ H Q I w => h.run pos pins s σ H Q I (i σ H Q w)⟩
theorem PS.imp {X : Cx} {e : Stmt} {t t' : TS} (h : PS X e t) (i : ∀ D σ H, t' D σ H → t D σ H) : PS X e t' := ⟨fun pins s σ H D I w => h.run pins s σ H D I (i D σ H w)⟩
theorem PSs.imp {X : Cx} {e : List Stmt} {t t' : TS} (h : PSs X e t) (i : ∀ D σ H, t' D σ H → t D σ H) : PSs X e t' := ⟨fun pins s σ H D I w => h.run pins s σ H D I (i D σ H w)⟩
theorem PI.imp {X : Cx} {tg e : Expr} {t t' : TI} (h : PI X tg e t) (i : ∀ σ H Q, t' σ H Q → t σ H Q) : PI X tg e t' := ⟨fun pins s σ H Q I w => h.run pins s σ H Q I (i σ H Q w)⟩
theorem PG.imp {X : Cx} {tg : Expr} {t t' : TG} (h : PG X tg t) (i : ∀ v σ H Q, t' v σ H Q → t v σ H Q) : PG X tg t' := ⟨fun pins s σ H v u Q I r w => h.run pins s σ H v u Q I r (i v σ H Q w)⟩
section
variable {K : Frag} {G : Addr → Prop} {σ : SS} {H : Hp} {e : Sg}
theorem vis_foreign {Dl : Addr} {o : HO} (hD : H Dl = none) : Same (vis G σ e H) (vis (fun a => G a ∨ a = Dl) σ e (upd H Dl o)) := fun a u h => by
  obtain ⟨h1, h2⟩ := cut_iff.mp h
  have hne : a ≠ Dl := ne_of_none h2 hD
  refine cut_of ?_ (by rw [upd_ne hne]; exact h2)
  rintro ((w | w) | w)
  · exact h1 (.inl w)
  · exact hne w
  · exact h1 (.inr w)
/-- one more object that is none of ours -/
theorem Rel.foreign {Dl : Addr} {o : HO} (r : Rel K G σ H e) (hD : H Dl = none) : Rel K (fun a => G a ∨ a = Dl) σ (upd H Dl o) e := by
  have sm : Same (vis G σ e H) (vis (fun a => G a ∨ a = Dl) σ e (upd H Dl o)) := fun a u h => by
    obtain ⟨h1, h2⟩ := cut_iff.mp h
    have hne : a ≠ Dl := ne_of_none h2 hD
    refine cut_of ?_ (by rw [upd_ne hne]; exact h2)
    rintro ((w | w) | w)
    · exact h1 (.inl w)
    · exact hne w
    · exact h1 (.inr w)
  refine ⟨r.len, fun i d h => ?_, fun i b ds h => ?_, r.sep, fun a h => ?_⟩
  · obtain ⟨v, h1, h2⟩ := r.val i d h
    exact ⟨v, h1, dp_mono sm h2⟩
  · obtain ⟨p, xs, h1, h2, h3, h4⟩ := r.own i b ds h
    have hne : p ≠ Dl := ne_of_none h2 hD
    exact ⟨p, xs, h1, by rw [upd_ne hne]; exact h2, dpa_mono sm h3, fun w => w.elim h4 hne⟩
  · rcases h with h | h
    · have := r.frn a h
      have hne : a ≠ Dl := fun q => this (by rw [q]; exact hD)
      rw [upd_ne hne]
      exact this
    · rw [h, upd_same]
      exact fun z => nomatch z
theorem vis_tame {Dl : Addr} : Same (vis (fun a => G a ∨ a = Dl) σ e H) (vis G σ e H) := fun a u h => by
  obtain ⟨h1, h2⟩ := cut_iff.mp h
  refine cut_of ?_ h2
  rintro (w | w)
  · exact h1 (.inl (.inl w))
  · exact h1 (.inr w)
theorem Rel.tame {Dl : Addr} (r : Rel K (fun a => G a ∨ a = Dl) σ H e) : Rel K G σ H e := by
  refine ⟨r.len, fun i d h => ?_, fun i b ds h => ?_, r.sep, fun a h => r.frn a (.inl h)⟩
  · obtain ⟨v, h1, h2⟩ := r.val i d h
    exact ⟨v, h1, dp_mono vis_tame h2⟩
  · obtain ⟨p, xs, h1, h2, h3, h4⟩ := r.own i b ds h
    exact ⟨p, xs, h1, h2, dpa_mono vis_tame h3, fun w => h4 (.inl w)⟩
theorem Rel.notOwn {Dl : Addr} (r : Rel K (fun a => G a ∨ a = Dl) σ H e) : ¬ Own σ e Dl := by
  rintro ⟨j, b, ds', q1, q2⟩
  obtain ⟨p, xs, q3, q4, q5, q6⟩ := r.own j b ds' q1
  rw [q2] at q3
  cases q3
  exact q6 (.inr rfl)
end
end PB

set_option maxHeartbeats 4000000
namespace PB
open PySem PySem.Spec PyProof.Rows L2

/-! ### names, constants -/
def mC (d : D) : ME := fun e => some (d, e)
def mVar (i : Nat) : ME := fun e => match e[i]? with
  | some (some (.val d)) => some (d, e)
  | some (some (.own false ds)) => some (.list ds, e.set i (some (.val (.list ds))))
  | _ => none
section
variable {K : Frag} {G : Addr → Prop} {σ : SS} {H : Hp} {e : Sg} {X : Cx}
theorem c_of {d : D} {v : V} (hv : ∀ H, Dp K H v d) : ∀ σ H Q, tOf K (mC d) σ H Q → tC v σ H Q := by
  rintro σ H Q ⟨G, e, d', e', rel, hm, k⟩
  cases hm
  exact k _ _ .refl rel (hv _)
theorem je_int {i : Int} {j : Nat} {pos : Pos} : PE X (.Constant (.int i) j pos) (tOf X.K (mC (.int i))) := PE.imp pe_int (c_of fun _ => .int i)
theorem je_bl {b : Bool} {j : Nat} {pos : Pos} : PE X (.Constant (.bool b) j pos) (tOf X.K (mC (.bool b))) := PE.imp pe_bl (c_of fun _ => .bl b)
theorem je_non {j : Nat} {pos : Pos} : PE X (.Constant .none j pos) (tOf X.K (mC .none)) := PE.imp pe_non (c_of fun _ => .non)
theorem je_str {x : Str} {j : Nat} {pos : Pos} : PE X (.Constant (.str x) j pos) (tOf X.K (mC (.str x))) := PE.imp pe_str (c_of fun _ => .str x)
theorem je_gint {x : Str} {i : Int} {pos : Pos} (hg : Gl X x) (hm : ∃ t, X.mg x = some (.int i t)) (hd : (x == ("__debug__" : Str)) = false := by decide) : PE X (.Name x pos) (tOf X.K (mC (.int i))) := by
  obtain ⟨t, hm⟩ := hm
  exact PE.imp (pe_glob (v := .int i) hg hm ⟨t, rfl⟩ hd) (c_of fun _ => .int i)

theorem own_set_val {i : Nat} {d : D} {a : Addr} (h : Own σ (e.set i (some (.val d))) a) : Own σ e a ∧ σ[i]? ≠ some (some (.ref a)) ∨ Own σ e a := by
  obtain ⟨j, b, ds, h1, h2⟩ := h
  rw [List.getElem?_set] at h1
  split at h1
  · split at h1 <;> simp at h1
  · exact .inr ⟨j, b, ds, h1, h2⟩
theorem own_val {i : Nat} {d : D} {a : Addr} (h : Own σ (e.set i (some (.val d))) a) : ∃ j, j ≠ i ∧ ∃ b ds, e[j]? = some (some (.own b ds)) ∧ σ[j]? = some (some (.ref a)) := by
  obtain ⟨j, b, ds, h1, h2⟩ := h
  rw [List.getElem?_set] at h1
  split at h1
  · split at h1 <;> simp at h1
  · rename_i hne
    exact ⟨j, fun q => hne q.symm, b, ds, h1, h2⟩
/-- a list of one's own becomes data -/
theorem freeze {i : Nat} {ds : List D} (r : Rel K G σ H e) (h : e[i]? = some (some (.own false ds))) :
    ∃ p, σ[i]? = some (some (.ref p)) ∧ Step σ e H σ (e.set i (some (.val (.list ds)))) H ∧ Rel K G σ H (e.set i (some (.val (.list ds)))) ∧ Dp K (vis G σ (e.set i (some (.val (.list ds)))) H) (.ref p) (.list ds) := by
  obtain ⟨p, xs, h1, h2, h3, h4⟩ := r.own i false ds h
  have st : Step σ e H σ (e.set i (some (.val (.list ds)))) H := by
    refine ⟨fun _ _ h _ => h, fun a w => ?_, fun _ h => h, fun j ds' hj => ⟨rfl, ds', ?_⟩⟩
    · obtain ⟨j, _, b, ds', q1, q2⟩ := own_val w
      exact .inl ⟨j, b, ds', q1, q2⟩
    · rw [List.getElem?_set]
      split
      · rename_i q
        subst q
        rw [h] at hj
        cases hj
      · exact hj
  have hn : ¬ Own σ (e.set i (some (.val (.list ds)))) p := fun w => by
    obtain ⟨j, hj, b, ds', q1, q2⟩ := own_val w
    exact hj (r.sep j i b false ds' ds p q1 h q2 h1)
  have dp : Dp K (vis G σ (e.set i (some (.val (.list ds)))) H) (.ref p) (.list ds) := .lst (.of (cut_of (fun w => w.elim h4 hn) h2)) (dpa_mono st.vis h3)
  refine ⟨p, h1, st, ⟨by rw [List.length_set]; exact r.len, fun j d hj => ?_, fun j b ds' hj => ?_, fun j k b c d1 d2 q hj hk => ?_, r.frn⟩, dp⟩
  · rw [List.getElem?_set] at hj
    split at hj
    · split at hj
      · rename_i q _
        cases hj
        subst q
        exact ⟨_, h1, dp⟩
      · cases hj
    · obtain ⟨v, q1, q2⟩ := r.val j d hj
      exact ⟨v, q1, dp_mono st.vis q2⟩
  · rw [List.getElem?_set] at hj
    split at hj
    · split at hj <;> cases hj
    · obtain ⟨p', xs', q1, q2, q3, q4⟩ := r.own j b ds' hj
      exact ⟨p', xs', q1, q2, dpa_mono st.vis q3, q4⟩
  · rw [List.getElem?_set] at hj hk
    split at hj
    · split at hj <;> cases hj
    · split at hk
      · split at hk <;> cases hk
      · exact r.sep j k b c d1 d2 q hj hk
theorem var_of {i : Nat} : ∀ σ H Q, tOf K (mVar i) σ H Q → tVar i σ H Q := by
  rintro σ H Q ⟨G, e, d, e', rel, hm, k⟩
  unfold mVar at hm
  split at hm
  · rename_i d' h
    cases hm
    obtain ⟨v, h1, h2⟩ := rel.val i _ h
    exact ⟨v, h1, k v H .refl rel h2⟩
  · rename_i ds h
    cases hm
    obtain ⟨p, h1, st, r2, dp⟩ := freeze rel h
    exact ⟨_, h1, k _ H st r2 dp⟩
  · cases hm
theorem jv (i : Nat) {x : Str} {pos : Pos} (hN : X.N[i]? = some x := by rfl) (hv : Vis X.env.scope x := by first | exact Or.inl rfl | exact Or.inr (Or.inl rfl) | exact Or.inr (Or.inr rfl)) (hd : (x == ("__debug__" : Str)) = false := by decide)
    (hcd : (x == ("__classdict__" : Str)) = false := by decide) : PE X (.Name x pos) (tOf X.K (mVar i)) := PE.imp (pe_var hN hv hd hcd) var_of
end

/-! ### two-place operations -/
def mBin (f : D → D → Option D) (a b : ME) : ME := fun e => (a e).bind fun r => (b r.2).bind fun q => (f r.1 q.1).map fun z => (z, q.2)
/-- a rule of values that does f on data -/
def DoesD (K : Frag) (r : R2) (f : D → D → Option D) : Prop := ∀ (F : Addr → Prop) (H : Hp) (x y : V) (a b c : D) (Q : VK), (∀ z, F z → H z ≠ none) → Dp K (cut H F) x a → Dp K (cut H F) y b → f a b = some c →
  (∀ v H2, Same H H2 → Dp K (cut H2 F) v c → Q v H2) → r x y H Q
section
variable {K : Frag} {X : Cx} {a b : Expr} {ma mb : ME} {f g : D → D → Option D} {r : R2} {pos : Pos}
theorem bin_of (hd : DoesD K r f) : ∀ σ H Q, tOf K (mBin f ma mb) σ H Q → tOp r (tOf K ma) (tOf K mb) σ H Q := by
  rintro σ H Q ⟨G, e, d, e', rel, hm, k⟩
  unfold mBin at hm
  obtain ⟨⟨d1, e1⟩, h1, hm⟩ := Option.bind_eq_some_iff.mp hm
  obtain ⟨⟨d2, e2⟩, h2, hm⟩ := Option.bind_eq_some_iff.mp hm
  obtain ⟨d3, h3, hm⟩ := Option.map_eq_some_iff.mp hm
  obtain ⟨rfl, rfl⟩ := Prod.mk.inj hm
  refine ⟨G, e, d1, e1, rel, h1, fun v1 H1 s1 r1 p1 => ⟨G, e1, d2, e2, r1, h2, fun v2 H2 s2 r2 p2 => ?_⟩⟩
  refine hd (fun a => G a ∨ Own σ e2 a) H2 v1 v2 d1 d2 _ Q r2.ne0 (dp_mono s2.vis p1) p2 h3 fun v H3 sm dp => ?_
  exact k v H3 ((s1.trans s2).trans (.grow sm)) (r2.grow sm) dp
def OpD (X : Cx) (h : Value → Value → Sem Value) (f : D → D → Option D) : Prop := ∃ r, OpR X h r ∧ DoesD X.K r f
theorem je_bin {op : Operator} (o : OpD X (binaryOp op) f) (ha : PE X a (tOf X.K ma)) (hb : PE X b (tOf X.K mb)) : PE X (.BinOp a op b pos) (tOf X.K (mBin f ma mb)) := by
  obtain ⟨r, h, hd⟩ := o
  exact PE.imp (pe_op h ha hb) (bin_of hd)
theorem je_cmp {op : CmpOp} (o : OpD X (compareOp op) f) (ha : PE X a (tOf X.K ma)) (hb : PE X b (tOf X.K mb)) (hm : behindInMarks op b = false) : PE X (.Compare a [op] [b] pos) (tOf X.K (mBin f ma mb)) := by
  obtain ⟨r, h, hd⟩ := o
  exact PE.imp (pe_cmpR h ha hb hm) (bin_of hd)
theorem OpD.or {h : Value → Value → Sem Value} (o : OpD X h f) (q : OpD X h g) : OpD X h (fun x y => (f x y).or (g x y)) := by
  obtain ⟨r, h1, d1⟩ := o
  obtain ⟨r', h2, d2⟩ := q
  refine ⟨_, h1.or h2, fun F H x y a b c Q hF ha hb hf k => ?_⟩
  have hf : (f a b).or (g a b) = some c := hf
  rcases hc : f a b with _ | c'
  · rw [hc] at hf
    exact .inr (d2 F H x y a b c Q hF ha hb (by simpa using hf) k)
  · rw [hc] at hf
    exact .inl (d1 F H x y a b c Q hF ha hb (by rw [hc]; simpa using hf) k)
end
def iOp (C : Int → Int → Bool) (g : Int → Int → D) : D → D → Option D
  | .int i, .int j => if C i j = true then some (g i j) else none
  | _, _ => none
theorem iOp_inv {C : Int → Int → Bool} {g : Int → Int → D} {a b c : D} (h : iOp C g a b = some c) : ∃ i j, a = .int i ∧ b = .int j ∧ C i j = true ∧ c = g i j := by
  unfold iOp at h
  split at h
  · split at h
    · rename_i i j hc
      cases h
      exact ⟨i, j, rfl, rfl, hc, rfl⟩
    · cases h
  · cases h
section
variable {X : Cx}
def cT : Int → Int → Bool := fun _ _ => true
def dAddI := iOp cT fun i j => .int (i + j)
def dSubI := iOp cT fun i j => .int (i - j)
def b01 (b : Bool) : Int := if b = true then 1 else 0
def bOp (g : Int → Int → Int) : D → D → Option D
  | .bool b, .int j => some (.int (g (b01 b) j))
  | _, _ => none
def rBI (g : Int → Int → Int) : R2 := fun x y H Q => ∃ b j, x = .bl b ∧ y = .int j ∧ Q (.int (g (b01 b) j)) H
theorem does_BI {K : Frag} {g : Int → Int → Int} : DoesD K (rBI g) (bOp g) := by
  intro F H x y a b c Q hF ha hb hf k
  unfold bOp at hf
  split at hf
  · cases hf
    cases ha
    cases hb
    exact ⟨_, _, rfl, rfl, k _ _ (.refl _) (.int _)⟩
  · cases hf
theorem op_addBI : OpR X (binaryOp .Add) (rBI (· + ·)) := by
  intro pins s σ H x y v u Q I rx ry h
  obtain ⟨b, j, rfl, rfl, q⟩ := h
  cases rx
  obtain ⟨t, rfl⟩ := ry
  exact PySem.IntBool.add_bool_int ⟨.int _, H, I.tok _, ⟨_, rfl⟩, q⟩
theorem op_subBI : OpR X (binaryOp .Sub) (rBI (· - ·)) := by
  intro pins s σ H x y v u Q I rx ry h
  obtain ⟨b, j, rfl, rfl, q⟩ := h
  cases rx
  obtain ⟨t, rfl⟩ := ry
  exact PySem.IntBool.sub_bool_int ⟨.int _, H, I.tok _, ⟨_, rfl⟩, q⟩
def dSub : D → D → Option D
  | .int i, .int j => some (.int (i - j))
  | .bool b, .int j => some (.int (b01 b - j))
  | _, _ => none
def dMul := iOp (fun i _ => decide (-(2 ^ 64) < i) && decide (i < 2 ^ 64)) fun i j => .int (i * j)
def dFdiv := iOp (fun _ j => decide (0 < j) && decide (j < 1073741824)) fun i j => .int (i / j)
def dMod := iOp (fun _ j => decide (0 < j)) fun i j => .int (i % j)
def dPow := iOp (fun i j => decide (0 ≤ j) && decide (j ≤ 1000000) && decide (i.natAbs < 2 ^ 64)) fun i j => .int (i ^ j.toNat)
theorem does_I0 {K : Frag} {g : Int → Int → V} {g' : Int → Int → D} (h : ∀ i j H, Dp K H (g i j) (g' i j)) : DoesD K (rI0 g) (iOp cT g') := by
  intro F H x y a b c Q hF ha hb hf k
  obtain ⟨i, j, rfl, rfl, _, rfl⟩ := iOp_inv hf
  cases ha
  cases hb
  exact ⟨i, j, rfl, rfl, k _ H (.refl H) (h i j _)⟩
theorem does_I {K : Frag} {C : Int → Int → Prop} {C' : Int → Int → Bool} {g : Int → Int → V} {g' : Int → Int → D} (hC : ∀ i j, C' i j = true → C i j) (h : ∀ i j H, Dp K H (g i j) (g' i j)) : DoesD K (rI C g) (iOp C' g') := by
  intro F H x y a b c Q hF ha hb hf k
  obtain ⟨i, j, rfl, rfl, hc, rfl⟩ := iOp_inv hf
  cases ha
  cases hb
  exact ⟨i, j, rfl, rfl, hC i j hc, k _ H (.refl H) (h i j _)⟩
theorem od_addI : OpD X (binaryOp .Add) dAddI := ⟨_, op_add, does_I0 fun _ _ _ => .int _⟩
theorem od_mul : OpD X (binaryOp .Mult) dMul := ⟨_, op_mul, does_I (fun i j h => .inl (by simpa using h)) fun _ _ _ => .int _⟩
theorem od_fdiv : OpD X (binaryOp .FloorDiv) dFdiv := ⟨_, op_fdiv, does_I (fun i j h => by simpa [CDiv] using h) fun _ _ _ => .int _⟩
theorem od_mod : OpD X (binaryOp .Mod) dMod := ⟨_, op_mod, does_I (fun i j h => by simpa using h) fun _ _ _ => .int _⟩
theorem od_pow : OpD X (binaryOp .Pow) dPow := ⟨_, op_pow, does_I (fun i j h => by simpa [CPow, and_assoc] using h) fun _ _ _ => .int _⟩
end

/-! ### + of lists, tuples -/
def szOk (n : Nat) : Bool := decide (n ≤ 100000)
theorem szOk_le {n : Nat} (h : szOk n = true) : n ≤ sizeLine := by
  rw [sizeLine_eq]
  have : n ≤ 100000 := of_decide_eq_true h
  omega
theorem szOk_lt {n : Nat} (h : szOk n = true) : n < sizeLine := by
  rw [sizeLine_eq]
  have : n ≤ 100000 := of_decide_eq_true h
  omega
theorem dp_list {K : Frag} {H : Hp} {v : V} {ds : List D} (h : Dp K H v (.list ds)) : ∃ a xs, v = .ref a ∧ SqL K H a xs ∧ DpAll K H xs ds := by
  cases h with
  | lst h t => exact ⟨_, _, rfl, h, t⟩
theorem dp_tup {K : Frag} {H : Hp} {v : V} {ds : List D} (h : Dp K H v (.tuple ds)) : ∃ a xs, v = .ref a ∧ SqT K H a xs ∧ DpAll K H xs ds := by
  cases h with
  | tup h t => exact ⟨_, _, rfl, h, t⟩
theorem dp_bool {K : Frag} {H : Hp} {v : V} {b : Bool} (h : Dp K H v (.bool b)) : v = .bl b := by
  cases h
  rfl
theorem dp_int {K : Frag} {H : Hp} {v : V} {b : Int} (h : Dp K H v (.int b)) : v = .int b := by
  cases h
  rfl
theorem dp_str {K : Frag} {H : Hp} {v : V} {b : Str} (h : Dp K H v (.str b)) : v = .str b := by
  cases h
  rfl
/-- a new list, a new tuple, of data that stood -/
theorem dp_newL {K : Frag} {F : Addr → Prop} {H : Hp} {p : Addr} {xs : List V} {ds : List D} (hF : ∀ z, F z → H z ≠ none) (hp : H p = none) (h : DpAll K (cut H F) xs ds) : Dp K (cut (upd H p (.lst xs)) F) (.ref p) (.list ds) :=
  .lst (.of (cut_of (fun w => hF p w hp) upd_same)) (dpa_mono (same_cuts (same_new hp)) h)
theorem dp_newT {K : Frag} {F : Addr → Prop} {H : Hp} {p : Addr} {xs : List V} {ds : List D} (hF : ∀ z, F z → H z ≠ none) (hp : H p = none) (h : DpAll K (cut H F) xs ds) : Dp K (cut (upd H p (.tup xs)) F) (.ref p) (.tuple ds) :=
  .tup (.of (cut_of (fun w => hF p w hp) upd_same)) (dpa_mono (same_cuts (same_new hp)) h)
section
variable {X : Cx}
def rCatL (K : Frag) : R2 := fun x y H Q => ∃ l b xs zs, x = .ref l ∧ y = .ref b ∧ SqL K H l xs ∧ SqL K H b zs ∧ xs.length + zs.length ≤ sizeLine ∧ ∀ p, H p = none → Q (.ref p) (upd H p (.lst (xs ++ zs)))
theorem op_catL : OpR X (binaryOp .Add) (rCatL X.K) := by
  intro pins s σ H x y v u Q I rx ry h
  obtain ⟨l, b, xs, zs, rfl, rfl, hl, hb, hz, q⟩ := h
  cases rx
  cases ry
  obtain ⟨its, r, ⟨o, n, e, hc, hd, ht⟩, _⟩ := I.list hl
  obtain ⟨its2, r2, ⟨o2, n2, e2, hc2, hd2, ht2⟩, _⟩ := I.list hb
  obtain ⟨oc, od, dt, sl⟩ := o
  obtain ⟨oc2, od2, dt2, sl2⟩ := o2
  simp only at hc ht hc2 ht2
  subst hc ht hc2 ht2
  have hl1 := r.length
  have hl2 := r2.length
  refine concat_meets ⟨_, e, rfl⟩ ⟨_, e2, rfl⟩ noFill_list_add seq_list_add PySem.F.slot_list_add PySem.F.entry_list_add (PySem.F.args_list_add_2 _ _) (list_addW l b its.toArray its2.toArray n n2 od od2 sl sl2 (by rw [List.size_toArray, List.size_toArray]; omega)) ⟨e, e2, ?_⟩
  have ea : its.toArray ++ its2.toArray = (its ++ its2).toArray := by simp
  rw [ea]
  exact ⟨.ref _, _, I.lnew (t' := s.toks) (r.append r2) (by rw [List.length_append]; omega), rfl, q _ I.fresh⟩
def dCatL : D → D → Option D
  | .list a, .list b => if szOk (a.length + b.length) = true then some (.list (a ++ b)) else none
  | _, _ => none
theorem od_catL : OpD X (binaryOp .Add) dCatL := by
  refine ⟨_, op_catL, fun F H x y a b c Q hF ha hb hf k => ?_⟩
  unfold dCatL at hf
  split at hf
  · split at hf
    · rename_i ds es hz
      cases hf
      obtain ⟨l, xs, rfl, h1, t1⟩ := dp_list ha
      obtain ⟨l2, ys, rfl, h2, t2⟩ := dp_list hb
      have e1 := dpa_len t1
      have e2 := dpa_len t2
      refine ⟨l, l2, xs, ys, rfl, rfl, same_cut.seq h1, same_cut.seq h2, by rw [e1, e2]; exact szOk_le hz, fun p hp => k _ _ (same_new hp) ?_⟩
      exact dp_newL hF hp (dpa_app t1 t2)
    · cases hf
  · cases hf
def dCatT : D → D → Option D
  | .tuple a, .tuple b => if szOk (a.length + b.length) = true then some (.tuple (a ++ b)) else none
  | _, _ => none
theorem od_catT : OpD X (binaryOp .Add) dCatT := by
  refine ⟨_, op_catA, fun F H x y a b c Q hF ha hb hf k => ?_⟩
  unfold dCatT at hf
  split at hf
  · split at hf
    · rename_i ds es hz
      cases hf
      have ha' := ha
      have hb' := hb
      obtain ⟨l, xs, rfl, h1, t1⟩ := dp_tup ha
      obtain ⟨l2, ys, rfl, h2, t2⟩ := dp_tup hb
      have e1 := dpa_len t1
      have e2 := dpa_len t2
      refine ⟨l, l2, xs, ys, rfl, rfl, same_tup same_cut h1, same_tup same_cut h2, by rw [e1, e2]; exact szOk_le hz, fun z => ?_, fun _ z => ?_, fun _ _ p hp => k _ _ (same_new hp) ?_⟩
      · subst z
        cases t1
        exact k _ _ (.refl _) hb'
      · subst z
        cases t2
        rw [List.append_nil] at k
        exact k _ _ (.refl _) ha'
      · exact dp_newT hF hp (dpa_app t1 t2)
    · cases hf
  · cases hf
def dCatS : D → D → Option D
  | .str a, .str b => if szOk (a.length + b.length) = true then some (.str (a ++ b)) else none
  | _, _ => none
theorem od_catS : OpD X (binaryOp .Add) dCatS := by
  refine ⟨_, op_add_str, fun F H x y a b c Q hF ha hb hf k => ?_⟩
  unfold dCatS at hf
  split at hf
  · split at hf
    · rename_i ds es hz
      cases hf
      cases ha
      cases hb
      exact ⟨ds, es, rfl, rfl, szOk_le hz, k _ _ (.refl _) (.str _)⟩
    · cases hf
  · cases hf
def dAdd : D → D → Option D
  | .int i, .int j => some (.int (i + j))
  | .bool b, .int j => some (.int (b01 b + j))
  | .list a, .list b => if szOk (a.length + b.length) = true then some (.list (a ++ b)) else none
  | .tuple a, .tuple b => if szOk (a.length + b.length) = true then some (.tuple (a ++ b)) else none
  | .str a, .str b => if szOk (a.length + b.length) = true then some (.str (a ++ b)) else none
  | _, _ => none
theorem OpD.to {h : Value → Value → Sem Value} {f g : D → D → Option D} (o : OpD X h f) (e : ∀ a b c, g a b = some c → f a b = some c) : OpD X h g := by
  obtain ⟨r, h1, d1⟩ := o
  exact ⟨r, h1, fun F H x y a b c Q hF ha hb hf k => d1 F H x y a b c Q hF ha hb (e a b c hf) k⟩
theorem od_add : OpD X (binaryOp .Add) dAdd := by
  have bi : OpD X (binaryOp .Add) (bOp (· + ·)) := ⟨_, op_addBI, does_BI⟩
  refine OpD.to (od_addI.or (bi.or (od_catL.or (od_catT.or od_catS)))) fun a b c h => ?_
  cases a <;> cases b <;> simp_all [dAdd, dAddI, iOp, cT, dCatL, dCatT, dCatS, bOp]
theorem od_sub : OpD X (binaryOp .Sub) dSub := by
  have bi : OpD X (binaryOp .Sub) (bOp (· - ·)) := ⟨_, op_subBI, does_BI⟩
  have ii : OpD X (binaryOp .Sub) dSubI := ⟨_, op_sub, does_I0 fun _ _ _ => .int _⟩
  refine OpD.to (ii.or bi) fun a b c h => ?_
  cases a <;> cases b <;> simp_all [dSub, dSubI, iOp, cT, bOp]
end

/-! ### comparisons -/
section
variable {X : Cx}
def dEq (a b : D) : Option D := if (SeqAt.shaped a && SeqAt.shaped b) = true then some (.bool (PyData.eqv a b)) else none
def dNe (a b : D) : Option D := if (SeqAt.shaped a && SeqAt.shaped b) = true then some (.bool (!PyData.eqv a b)) else none
theorem od_eq (hu : X.A.units + 64 < cLine) : OpD X (compareOp .Eq) dEq := by
  refine ⟨_, op_eqD hu, fun F H x y a b c Q hF ha hb hf k => ?_⟩
  unfold dEq at hf
  split at hf
  · rename_i hs
    cases hf
    rw [Bool.and_eq_true] at hs
    exact ⟨a, b, dp_mono same_cut ha, dp_mono same_cut hb, hs.1, hs.2, k _ _ (.refl _) (.bl _)⟩
  · cases hf
theorem od_ne (hu : X.A.units + 64 < cLine) : OpD X (compareOp .NotEq) dNe := by
  refine ⟨_, op_neD hu, fun F H x y a b c Q hF ha hb hf k => ?_⟩
  unfold dNe at hf
  split at hf
  · rename_i hs
    cases hf
    rw [Bool.and_eq_true] at hs
    exact ⟨a, b, dp_mono same_cut ha, dp_mono same_cut hb, hs.1, hs.2, k _ _ (.refl _) (.bl _)⟩
  · cases hf
def sOp (g : Str → Str → Bool) : D → D → Option D
  | .str i, .str j => some (.bool (g i j))
  | _, _ => none
theorem does_S {K : Frag} {g : Str → Str → Bool} : DoesD K (fun x y H Q => ∃ i j, x = .str i ∧ y = .str j ∧ Q (.bl (g i j)) H) (sOp g) := by
  intro F H x y a b c Q hF ha hb hf k
  unfold sOp at hf
  split at hf
  · cases hf
    cases ha
    cases hb
    exact ⟨_, _, rfl, rfl, k _ _ (.refl _) (.bl _)⟩
  · cases hf
def sLt (i j : Str) : Bool := decide (i.cps.toList < j.cps.toList)
/-- numbers, texts -/
def dCmp (p : Int → Int → Bool) (q : Str → Str → Bool) : D → D → Option D
  | .int i, .int j => some (.bool (p i j))
  | .str i, .str j => some (.bool (q i j))
  | _, _ => none
def dLt := dCmp (fun i j => decide (i < j)) sLt
def dLe := dCmp (fun i j => decide (i ≤ j)) (fun i j => !sLt j i)
def dGt := dCmp (fun i j => decide (j < i)) (fun i j => sLt j i)
def dGe := dCmp (fun i j => decide (j ≤ i)) (fun i j => !sLt i j)
theorem od_cmp {h : Value → Value → Sem Value} {p : Int → Int → Bool} {q : Str → Str → Bool} (h1 : OpR X h (rI0 fun i j => .bl (p i j))) (h2 : OpR X h (fun x y H Q => ∃ i j, x = .str i ∧ y = .str j ∧ Q (.bl (q i j)) H)) : OpD X h (dCmp p q) := by
  have o1 : OpD X h (iOp cT fun i j => .bool (p i j)) := ⟨_, h1, does_I0 fun _ _ _ => .bl _⟩
  have o2 : OpD X h (sOp q) := ⟨_, h2, does_S⟩
  refine OpD.to (o1.or o2) fun a b c h => ?_
  cases a <;> cases b <;> simp_all [dCmp, iOp, cT, sOp]
theorem od_lt : OpD X (compareOp .Lt) dLt := od_cmp op_lt op_lt_str
theorem od_le : OpD X (compareOp .LtE) dLe := od_cmp op_le op_le_str
theorem od_gt : OpD X (compareOp .Gt) dGt := od_cmp op_gt op_gt_str
theorem od_ge : OpD X (compareOp .GtE) dGe := od_cmp op_ge op_ge_str
def isNone : D → Bool
  | .none => true
  | _ => false
def dIs : D → D → Option D
  | a, .none => some (.bool (isNone a))
  | _, _ => none
def dIsNot : D → D → Option D
  | a, .none => some (.bool (!isNone a))
  | _, _ => none
theorem none_iff {K : Frag} {H : Hp} {x : V} {a : D} (h : Dp K H x a) : decide (x = .non) = isNone a := by
  cases h <;> simp [isNone]
theorem od_is : OpD X (compareOp .Is) dIs := by
  refine ⟨_, op_isN, fun F H x y a b c Q hF ha hb hf k => ?_⟩
  unfold dIs at hf
  split at hf
  · cases hf
    cases hb
    refine ⟨rfl, ?_⟩
    rw [none_iff ha]
    exact k _ _ (.refl _) (.bl _)
  · cases hf
theorem od_isnot : OpD X (compareOp .IsNot) dIsNot := by
  refine ⟨_, op_notN, fun F H x y a b c Q hF ha hb hf k => ?_⟩
  unfold dIsNot at hf
  split at hf
  · cases hf
    cases hb
    refine ⟨rfl, ?_⟩
    rw [none_iff ha]
    exact k _ _ (.refl _) (.bl _)
  · cases hf
end
end PB

set_option maxHeartbeats 4000000
namespace PB
open PySem PySem.Spec PyProof.Rows L2

/-! ### subscripts -/
theorem dpa_atI {K : Frag} {H : Hp} {xs : List V} {ds : List D} {i : Int} {d : D} (h : DpAll K H xs ds) (e : atI ds i = some d) : ∃ v, atI xs i = some v ∧ Dp K H v d := by
  unfold atI at e ⊢
  rw [dpa_len h]
  cases hq : ixN ds.length i with
  | none => rw [hq] at e; cases e
  | some j =>
    rw [hq] at e
    have e' : ds[j]? = some d := e
    obtain ⟨u, h1, h2⟩ := dpa_get h e'
    exact ⟨u, h1, h2⟩
def dIx : D → D → Option D
  | .list ds, .int i => atI ds i
  | .tuple ds, .int i => atI ds i
  | .str s, .int i => if szOk s.length = true then (atI s.cps.toList i).map fun c => .str ⟨#[c]⟩ else none
  | _, _ => none
section
variable {K : Frag} {X : Cx} {a b : Expr} {ma mb : ME} {pos : Pos}
theorem does_ix : DoesD K (rIx K) dIx := by
  intro F H x y a b c Q hF ha hb hf k
  unfold dIx at hf
  split at hf
  · obtain ⟨l, xs, rfl, h1, t1⟩ := dp_list ha
    cases hb
    obtain ⟨v, e1, e2⟩ := dpa_atI t1 hf
    exact .inl ⟨l, xs, _, v, rfl, rfl, same_cut.seq h1, e1, k _ _ (.refl _) e2⟩
  · obtain ⟨l, xs, rfl, h1, t1⟩ := dp_tup ha
    cases hb
    obtain ⟨v, e1, e2⟩ := dpa_atI t1 hf
    exact .inr (.inl ⟨l, xs, _, v, rfl, rfl, same_tup same_cut h1, e1, k _ _ (.refl _) e2⟩)
  · split at hf
    · rename_i hz
      cases ha
      cases hb
      obtain ⟨c', h1, h2⟩ := Option.map_eq_some_iff.mp hf
      subst h2
      exact .inr (.inr ⟨_, _, c', rfl, rfl, szOk_le hz, h1, k _ _ (.refl _) (.str _)⟩)
    · cases hf
  · cases hf
theorem je_ix (ha : PE X a (tOf X.K ma)) (hb : PE X b (tOf X.K mb)) (hs : PlainIx b) : PE X (.Subscript a b pos) (tOf X.K (mBin dIx ma mb)) := PE.imp (pe_ix ix_seq ha hb hs) (bin_of does_ix)
/-- an item of a list of one's own -/
def mIxOwn (i : Nat) (mb : ME) : ME := fun e => match e[i]? with
  | some (some (.own _ _)) => (mb e).bind fun r => match r.1, r.2[i]? with
    | .int j, some (some (.own _ ds)) => (atI ds j).map fun z => (z, r.2)
    | _, _ => none
  | _ => none
theorem je_ixOwn (i : Nat) {x : Str} {p : Pos} (hb : PE X b (tOf X.K mb)) (hs : PlainIx b) (hN : X.N[i]? = some x := by rfl) (hv : Vis X.env.scope x := by first | exact Or.inl rfl | exact Or.inr (Or.inl rfl) | exact Or.inr (Or.inr rfl))
    (hd : (x == ("__debug__" : Str)) = false := by decide) (hcd : (x == ("__classdict__" : Str)) = false := by decide) : PE X (.Subscript (.Name x p) b pos) (tOf X.K (mIxOwn i mb)) := by
  refine PE.imp (pe_ix ix_list (pe_var hN hv hd hcd) hb hs) ?_
  rintro σ H Q ⟨G, e, d, e', rel, hm, k⟩
  unfold mIxOwn at hm
  split at hm
  · rename_i b0 ds0 h0
    obtain ⟨⟨d1, e1⟩, h1, hm⟩ := Option.bind_eq_some_iff.mp hm
    simp only at hm
    split at hm
    · rename_i j bb ds hj
      obtain ⟨z, hz, hm⟩ := Option.map_eq_some_iff.mp hm
      obtain ⟨rfl, rfl⟩ := Prod.mk.inj hm
      obtain ⟨q, xs0, s1, _⟩ := rel.own i _ _ h0
      refine ⟨.ref q, s1, G, e, _, e1, rel, h1, fun v H1 st r1 dp => ?_⟩
      cases dp
      obtain ⟨q', xs, s2, hx, hd2, _⟩ := r1.own i _ _ hj
      rw [s1] at s2
      cases s2
      obtain ⟨v, e1', e2⟩ := dpa_atI hd2 hz
      exact ⟨q, xs, j, v, rfl, rfl, .of hx, e1', k v H1 st r1 e2⟩
    · cases hm
  · cases hm

/-! ### slices -/
def cutD (xs : List D) (lo hi : Option Int) : List D := (xs.drop (HT.sIx xs.length 0 lo)).take (HT.sIx xs.length xs.length hi - HT.sIx xs.length 0 lo)
theorem dpa_cut {H : Hp} {xs : List V} {ds : List D} (lo hi : Option Int) (h : DpAll K H xs ds) : DpAll K H (cutV xs lo hi) (cutD ds lo hi) := by
  unfold cutV cutD
  rw [dpa_len h]
  exact dpa_take _ (dpa_drop _ h)
theorem cutD_whole {ds : List D} {lo hi : Option Int} (h : HT.sIx ds.length 0 lo = 0 ∧ HT.sIx ds.length ds.length hi = ds.length) : cutD ds lo hi = ds := by
  unfold cutD
  rw [h.1, h.2]
  simp
abbrev MO := Sg → Option (Option Int × Sg)
def mNoPart : MO := fun e => some (none, e)
def mPart (a : ME) : MO := fun e => (a e).bind fun r => match r.1 with
  | .int i => some (some i, r.2)
  | _ => none
def tOOf (K : Frag) (m : MO) : TO := fun σ H Q => ∃ G e o e', Rel K G σ H e ∧ m e = some (o, e') ∧ ∀ H', Step σ e H σ e' H' → Rel K G σ H' e' → Q o H'
theorem PO.imp {e : Option Expr} {t t' : TO} (h : PO X e t) (i : ∀ σ H Q, t' σ H Q → t σ H Q) : PO X e t' := ⟨fun pins s σ H Q I w => h.run pins s σ H Q I (i σ H Q w)⟩
theorem jo_none : PO X none (tOOf X.K mNoPart) := PO.imp po_none (by
  rintro σ H Q ⟨G, e, o, e', rel, hm, k⟩
  cases hm
  exact k H .refl rel)
theorem jo_some (ha : PE X a (tOf X.K ma)) : PO X (some a) (tOOf X.K (mPart ma)) := PO.imp (po_some ha) (by
  rintro σ H Q ⟨G, e, o, e', rel, hm, k⟩
  obtain ⟨⟨d1, e1⟩, h1, hm⟩ := Option.bind_eq_some_iff.mp hm
  simp only at hm
  split at hm
  · cases hm
    refine ⟨G, e, _, _, rel, h1, fun v H1 st r1 dp => ?_⟩
    cases dp
    exact ⟨_, rfl, k H1 st r1⟩
  · cases hm)
def dSl (d : D) (lo hi : Option Int) : Option D := match d with
  | .list ds => some (.list (cutD ds lo hi))
  | .tuple ds => some (.tuple (cutD ds lo hi))
  | _ => none
def mSl (a : ME) (lo hi : MO) : ME := fun e => (a e).bind fun r => (lo r.2).bind fun l => (hi l.2).bind fun u => (dSl r.1 l.1 u.1).map fun z => (z, u.2)
theorem je_slice {lo hi : Option Expr} {ml mh : MO} {p2 : Pos} (ha : PE X a (tOf X.K ma)) (hl : PO X lo (tOOf X.K ml)) (hh : PO X hi (tOOf X.K mh)) : PE X (.Subscript a (.Slice lo hi none p2) pos) (tOf X.K (mSl ma ml mh)) := by
  refine PE.imp (pe_slice (sl_list.or sl_tupA) ha hl hh) ?_
  rintro σ H Q ⟨G, e, d, e', rel, hm, k⟩
  obtain ⟨⟨d1, e1⟩, h1, hm⟩ := Option.bind_eq_some_iff.mp hm
  obtain ⟨⟨l, e2⟩, h2, hm⟩ := Option.bind_eq_some_iff.mp hm
  obtain ⟨⟨u, e3⟩, h3, hm⟩ := Option.bind_eq_some_iff.mp hm
  obtain ⟨z, h4, hm⟩ := Option.map_eq_some_iff.mp hm
  obtain ⟨rfl, rfl⟩ := Prod.mk.inj hm
  refine ⟨G, e, d1, e1, rel, h1, fun v H1 s1 r1 dp => ⟨G, e1, l, e2, r1, h2, fun H2 s2 r2 => ⟨G, e2, u, e3, r2, h3, fun H3 s3 r3 => ?_⟩⟩⟩
  have dp3 := dp_mono (s2.trans s3).vis dp
  have st := (s1.trans s2).trans s3
  simp only at h4
  unfold dSl at h4
  split at h4
  · cases h4
    obtain ⟨l', xs, rfl, q1, t1⟩ := dp_list dp3
    refine .inl ⟨l', xs, rfl, same_cut.seq q1, fun p hp => k _ _ (st.trans (.grow (same_new hp))) (r3.grow (same_new hp)) ?_⟩
    exact dp_newL r3.ne0 hp (dpa_cut _ _ t1)
  · cases h4
    have dp4 := dp3
    obtain ⟨l', xs, rfl, q1, t1⟩ := dp_tup dp3
    have el := dpa_len t1
    refine .inr ⟨l', xs, rfl, same_tup same_cut q1, fun hw => ?_, fun _ p hp => k _ _ (st.trans (.grow (same_new hp))) (r3.grow (same_new hp)) ?_⟩
    · rw [el] at hw
      refine k _ _ st r3 ?_
      rw [cutD_whole hw]
      exact dp4
    · exact dp_newT r3.ne0 hp (dpa_cut _ _ t1)
  · cases h4

/-! ### one-place operations -/
def mUn (f : D → Option D) (a : ME) : ME := fun e => (a e).bind fun r => (f r.1).map fun z => (z, r.2)
def dNeg : D → Option D
  | .int i => some (.int (-i))
  | _ => none
theorem je_neg (ha : PE X a (tOf X.K ma)) : PE X (.UnaryOp .USub a pos) (tOf X.K (mUn dNeg ma)) := by
  refine PE.imp (pe_un un_neg ha) ?_
  rintro σ H Q ⟨G, e, d, e', rel, hm, k⟩
  obtain ⟨⟨d1, e1⟩, h1, hm⟩ := Option.bind_eq_some_iff.mp hm
  obtain ⟨z, h2, hm⟩ := Option.map_eq_some_iff.mp hm
  obtain ⟨rfl, rfl⟩ := Prod.mk.inj hm
  refine ⟨G, e, d1, e1, rel, h1, fun v H1 s1 r1 dp => ?_⟩
  simp only at h2
  unfold dNeg at h2
  split at h2
  · cases h2
    cases dp
    exact ⟨_, rfl, k _ _ s1 r1 (.int _)⟩
  · cases h2

/-! ### tests -/
def truth : D → Option Bool
  | .none => some false
  | .bool b => some b
  | .int i => some (i != 0)
  | .str s => if szOk s.length = true then some ((s.length : Int) != 0) else none
  | .list ds => some (!ds.isEmpty)
  | .tuple ds => some (!ds.isEmpty)
  | _ => none
theorem truv {H H' : Hp} {v : V} {d : D} {b : Bool} (sm : Same H H') (h : Dp K H v d) (e : truth d = some b) : TruV K v H' b := by
  cases h with
  | non => cases e; rfl
  | bl b' => cases e; rfl
  | int i => cases e; rfl
  | str s =>
    unfold truth at e
    simp only at e
    split at e
    · rename_i hz
      cases e
      exact ⟨szOk_le hz, rfl⟩
    · cases e
  | lst q t =>
    cases e
    refine .inl ⟨_, sm.seq q, ?_⟩
    cases t <;> rfl
  | tup q t =>
    cases e
    refine .inr (.inl ⟨_, same_tup sm q, ?_⟩)
    cases t <;> rfl
def mTru (a : ME) : MT := fun e => (a e).bind fun r => (truth r.1).map fun b => (b, r.2)
theorem jt_val (ha : PE X a (tOf X.K ma)) (he : ∀ whole, isTrue a X.env whole = (do let v ← whole; standAt a.pos; holding [v] (truthy v)) := by intro _; rfl) : PT X a (tTOf X.K (mTru ma)) := by
  refine PT.imp (pt_truth ha he) ?_
  rintro σ H Q ⟨G, e, d, e', rel, hm, k⟩
  obtain ⟨⟨d1, e1⟩, h1, hm⟩ := Option.bind_eq_some_iff.mp hm
  obtain ⟨z, h2, hm⟩ := Option.map_eq_some_iff.mp hm
  obtain ⟨rfl, rfl⟩ := Prod.mk.inj hm
  exact ⟨G, e, d1, e1, rel, h1, fun v H1 s1 r1 dp => ⟨_, truv same_cut dp h2, k H1 s1 r1⟩⟩
/-- a comparison as a test -/
def isB : D → Option Bool
  | .bool b => some b
  | _ => none
def mB (a : ME) : MT := fun e => (a e).bind fun r => (isB r.1).map fun b => (b, r.2)
theorem b_of {m : ME} : ∀ σ H Q, tTOf K (mB m) σ H Q → tTest (tOf K m) σ H Q := by
  rintro σ H Q ⟨G, e, d, e', rel, hm, k⟩
  obtain ⟨⟨d1, e1⟩, h1, hm⟩ := Option.bind_eq_some_iff.mp hm
  obtain ⟨z, h2, hm⟩ := Option.map_eq_some_iff.mp hm
  obtain ⟨rfl, rfl⟩ := Prod.mk.inj hm
  refine ⟨G, e, d1, e1, rel, h1, fun v H1 s1 r1 dp => ?_⟩
  simp only at h2
  unfold isB at h2
  split at h2
  · cases h2
    cases dp
    exact ⟨_, rfl, k H1 s1 r1⟩
  · cases h2
theorem jt_cmp {op : CmpOp} {f : D → D → Option D} (o : OpD X (compareOp op) f) (ha : PE X a (tOf X.K ma)) (hb : PE X b (tOf X.K mb)) (hm : behindInMarks op b = false) : PT X (.Compare a [op] [b] pos) (tTOf X.K (mB (mBin f ma mb))) := by
  obtain ⟨r, h, hd⟩ := o
  refine PT.imp (pt_cmpR h ha hb hm) fun σ H Q w => ?_
  exact bin_of hd σ H _ (b_of σ H Q w)
/-- a op b op' c -/
def mChain (f g : D → D → Option D) (a b c : ME) : ME := fun e => (a e).bind fun r => (b r.2).bind fun q => (f r.1 q.1).bind fun z => match z with
  | .bool k => if k = true then (c q.2).bind fun s => (g q.1 s.1).map fun y => (y, s.2) else some (.bool false, q.2)
  | _ => none
theorem chain_of {f g : D → D → Option D} {r r' : R2} {mc : ME} (hd : DoesD K r f) (hd' : DoesD K r' g) : ∀ σ H Q, tOf K (mChain f g ma mb mc) σ H Q → tChain r r' (tOf K ma) (tOf K mb) (tOf K mc) σ H Q := by
  rintro σ H Q ⟨G, e, d, e', rel, hm, k⟩
  obtain ⟨⟨d1, e1⟩, h1, hm⟩ := Option.bind_eq_some_iff.mp hm
  obtain ⟨⟨d2, e2⟩, h2, hm⟩ := Option.bind_eq_some_iff.mp hm
  obtain ⟨z, h3, hm⟩ := Option.bind_eq_some_iff.mp hm
  refine ⟨G, e, d1, e1, rel, h1, fun v1 H1 s1 r1 p1 => ⟨G, e1, d2, e2, r1, h2, fun v2 H2 s2 r2 p2 => ?_⟩⟩
  refine hd (fun a => G a ∨ Own σ e2 a) H2 v1 v2 d1 d2 z _ r2.ne0 (dp_mono s2.vis p1) p2 h3 fun v H3 sm dp => ?_
  have r3 := r2.grow sm
  have s3 := (s1.trans s2).trans (Step.grow (e := e2) sm)
  split at hm
  · split at hm
    · rename_i hk
      subst hk
      obtain ⟨⟨d4, e4⟩, h4, hm⟩ := Option.bind_eq_some_iff.mp hm
      obtain ⟨y, h5, hm⟩ := Option.map_eq_some_iff.mp hm
      obtain ⟨rfl, rfl⟩ := Prod.mk.inj hm
      cases dp
      refine ⟨true, rfl, iteT ⟨G, e2, d4, e4, r3, h4, fun v4 H4 s4 r4 p4 => ?_⟩⟩
      refine hd' (fun a => G a ∨ Own σ e4 a) H4 v2 v4 d2 d4 _ _ r4.ne0 (dp_mono ((Step.grow (e := e2) sm).trans s4).vis p2) p4 h5 fun v5 H5 sm5 dp5 => ?_
      exact k v5 H5 ((s3.trans s4).trans (.grow sm5)) (r4.grow sm5) dp5
    · rename_i kk hk
      cases hm
      cases dp
      cases kk with
      | true => exact absurd rfl hk
      | false => exact ⟨false, rfl, iteF (k _ _ s3 r3 (.bl _))⟩
  · cases hm
theorem je_chain {op op' : CmpOp} {c : Expr} {mc : ME} {f g : D → D → Option D} (o : OpD X (compareOp op) f) (o' : OpD X (compareOp op') g) (ha : PE X a (tOf X.K ma)) (hb : PE X b (tOf X.K mb)) (hc : PE X c (tOf X.K mc))
    (hm : lastMarks [op, op'] [b, c] = false := by with_unfolding_all rfl) : PE X (.Compare a [op, op'] [b, c] pos) (tOf X.K (mChain f g ma mb mc)) := by
  obtain ⟨r, h, hd⟩ := o
  obtain ⟨r', h', hd'⟩ := o'
  exact PE.imp (pe_chain h h' ha hb hc hm) (chain_of hd hd')
theorem jt_chain {op op' : CmpOp} {c : Expr} {mc : ME} {f g : D → D → Option D} (o : OpD X (compareOp op) f) (o' : OpD X (compareOp op') g) (ha : PE X a (tOf X.K ma)) (hb : PE X b (tOf X.K mb)) (hc : PE X c (tOf X.K mc))
    (hm : lastMarks [op, op'] [b, c] = false := by with_unfolding_all rfl) : PT X (.Compare a [op, op'] [b, c] pos) (tTOf X.K (mB (mChain f g ma mb mc))) := by
  obtain ⟨r, h, hd⟩ := o
  obtain ⟨r', h', hd'⟩ := o'
  refine PT.imp (pt_chain h h' ha hb hc hm) fun σ H Q w => ?_
  exact chain_of hd hd' σ H _ (b_of σ H Q w)
/-! ### and, or, not -/
def mAndT (a b : MT) : MT := fun e => (a e).bind fun r => if r.1 = true then b r.2 else some (false, r.2)
def mOrT (a b : MT) : MT := fun e => (a e).bind fun r => if r.1 = true then some (true, r.2) else b r.2
def mNotT (a : MT) : MT := fun e => (a e).map fun r => (!r.1, r.2)
variable {ta tb : MT} {rest : List Expr}
theorem jw_and1 (ha : PT X a (tTOf X.K ta)) : PW X (.BoolOp .And [a] pos) (tTOf X.K ta) := pw_and1 ha
theorem jw_or1 (ha : PT X a (tTOf X.K ta)) : PW X (.BoolOp .Or [a] pos) (tTOf X.K ta) := pw_or1 ha
theorem jw_and (ha : PT X a (tTOf X.K ta)) (hb : PW X (.BoolOp .And (b :: rest) pos) (tTOf X.K tb)) : PW X (.BoolOp .And (a :: b :: rest) pos) (tTOf X.K (mAndT ta tb)) := by
  refine PW.imp (pw_and ha hb) ?_
  rintro σ H Q ⟨G, e, d, e', rel, hm, k⟩
  obtain ⟨⟨d1, e1⟩, h1, hm⟩ := Option.bind_eq_some_iff.mp hm
  refine ⟨G, e, d1, e1, rel, h1, fun H1 s1 r1 => ?_⟩
  cases d1 with
  | true => exact iteT ⟨G, e1, d, e', r1, hm, fun H2 s2 r2 => k H2 (s1.trans s2) r2⟩
  | false =>
    cases hm
    exact iteF (k H1 s1 r1)
theorem jw_or (ha : PT X a (tTOf X.K ta)) (hb : PW X (.BoolOp .Or (b :: rest) pos) (tTOf X.K tb)) : PW X (.BoolOp .Or (a :: b :: rest) pos) (tTOf X.K (mOrT ta tb)) := by
  refine PW.imp (pw_or ha hb) ?_
  rintro σ H Q ⟨G, e, d, e', rel, hm, k⟩
  obtain ⟨⟨d1, e1⟩, h1, hm⟩ := Option.bind_eq_some_iff.mp hm
  refine ⟨G, e, d1, e1, rel, h1, fun H1 s1 r1 => ?_⟩
  cases d1 with
  | false => exact iteF ⟨G, e1, d, e', r1, hm, fun H2 s2 r2 => k H2 (s1.trans s2) r2⟩
  | true =>
    cases hm
    exact iteT (k H1 s1 r1)
theorem jt_w (h : PW X a (tTOf X.K ta)) : PT X a (tTOf X.K ta) := h.pt
theorem jt_not (ha : PT X a (tTOf X.K ta)) : PT X (.UnaryOp .Not a pos) (tTOf X.K (mNotT ta)) := by
  refine PT.imp (pt_not ha) ?_
  rintro σ H Q ⟨G, e, d, e', rel, hm, k⟩
  obtain ⟨⟨d1, e1⟩, h1, hm⟩ := Option.map_eq_some_iff.mp hm
  obtain ⟨rfl, rfl⟩ := Prod.mk.inj hm
  exact ⟨G, e, d1, e1, rel, h1, fun H1 s1 r1 => k H1 s1 r1⟩
/-- .. as values (truths) -/
def mAndV (a b : ME) : ME := fun e => (a e).bind fun r => match r.1 with
  | .bool k => if k = true then b r.2 else some (.bool false, r.2)
  | _ => none
def mOrV (a b : ME) : ME := fun e => (a e).bind fun r => match r.1 with
  | .bool k => if k = true then some (.bool true, r.2) else b r.2
  | _ => none
theorem je_one {op : BoolOp} (ha : PE X a (tOf X.K ma)) : PE X (.BoolOp op [a] pos) (tOf X.K ma) := pe_one ha
theorem je_and (ha : PE X a (tOf X.K ma)) (hb : PE X (.BoolOp .And (b :: rest) pos) (tOf X.K mb)) : PE X (.BoolOp .And (a :: b :: rest) pos) (tOf X.K (mAndV ma mb)) := by
  refine PE.imp (pe_and ha hb) ?_
  rintro σ H Q ⟨G, e, d, e', rel, hm, k⟩
  obtain ⟨⟨d1, e1⟩, h1, hm⟩ := Option.bind_eq_some_iff.mp hm
  refine ⟨G, e, d1, e1, rel, h1, fun v H1 s1 r1 dp => ?_⟩
  simp only at hm
  split at hm
  · rename_i kk
    cases dp
    cases kk with
    | true => exact ⟨true, rfl, iteT ⟨G, e1, d, e', r1, hm, fun v H2 s2 r2 dp2 => k v H2 (s1.trans s2) r2 dp2⟩⟩
    | false =>
      cases hm
      exact ⟨false, rfl, iteF (k _ H1 s1 r1 (.bl _))⟩
  · cases hm
theorem je_or (ha : PE X a (tOf X.K ma)) (hb : PE X (.BoolOp .Or (b :: rest) pos) (tOf X.K mb)) : PE X (.BoolOp .Or (a :: b :: rest) pos) (tOf X.K (mOrV ma mb)) := by
  refine PE.imp (pe_or ha hb) ?_
  rintro σ H Q ⟨G, e, d, e', rel, hm, k⟩
  obtain ⟨⟨d1, e1⟩, h1, hm⟩ := Option.bind_eq_some_iff.mp hm
  refine ⟨G, e, d1, e1, rel, h1, fun v H1 s1 r1 dp => ?_⟩
  simp only at hm
  split at hm
  · rename_i kk
    cases dp
    cases kk with
    | true =>
      cases hm
      exact ⟨true, rfl, iteT (k _ H1 s1 r1 (.bl _))⟩
    | false => exact ⟨false, rfl, iteF ⟨G, e1, d, e', r1, hm, fun v H2 s2 r2 dp2 => k v H2 (s1.trans s2) r2 dp2⟩⟩
  · cases hm
def dNot : D → Option D
  | .bool b => some (.bool (!b))
  | _ => none
theorem je_not (ha : PE X a (tOf X.K ma)) : PE X (.UnaryOp .Not a pos) (tOf X.K (mUn dNot ma)) := by
  refine PE.imp (pe_not ha) ?_
  rintro σ H Q ⟨G, e, d, e', rel, hm, k⟩
  obtain ⟨⟨d1, e1⟩, h1, hm⟩ := Option.bind_eq_some_iff.mp hm
  obtain ⟨z, h2, hm⟩ := Option.map_eq_some_iff.mp hm
  obtain ⟨rfl, rfl⟩ := Prod.mk.inj hm
  refine ⟨G, e, d1, e1, rel, h1, fun v H1 s1 r1 dp => ?_⟩
  simp only at h2
  unfold dNot at h2
  split at h2
  · cases h2
    cases dp
    exact ⟨_, rfl, k _ _ s1 r1 (.bl _)⟩
  · cases h2
def mIfE (t : MT) (a b : ME) : ME := fun e => (t e).bind fun r => if r.1 = true then a r.2 else b r.2
theorem je_if {c : Expr} (hc : PT X c (tTOf X.K ta)) (ha : PE X a (tOf X.K ma)) (hb : PE X b (tOf X.K mb)) : PE X (.IfExp c a b pos) (tOf X.K (mIfE ta ma mb)) := by
  refine PE.imp (pe_ifExp hc ha hb) ?_
  rintro σ H Q ⟨G, e, d, e', rel, hm, k⟩
  obtain ⟨⟨d1, e1⟩, h1, hm⟩ := Option.bind_eq_some_iff.mp hm
  refine ⟨G, e, d1, e1, rel, h1, fun H1 s1 r1 => ?_⟩
  cases d1 with
  | true => exact iteT ⟨G, e1, d, e', r1, hm, fun v H2 s2 r2 dp2 => k v H2 (s1.trans s2) r2 dp2⟩
  | false => exact iteF ⟨G, e1, d, e', r1, hm, fun v H2 s2 r2 dp2 => k v H2 (s1.trans s2) r2 dp2⟩
end
end PB

set_option maxHeartbeats 4000000
namespace PB
open PySem PySem.Spec PyProof.Rows L2

/-! ### arguments, displays -/
def mNil : ML := fun e => some ([], e)
def mCons (a : ME) (r : ML) : ML := fun e => (a e).bind fun x => (r x.2).map fun y => (x.1 :: y.1, y.2)
section
variable {K : Frag} {X : Cx} {a : Expr} {es : List Expr} {ma : ME} {ms : ML} {pos : Pos}
theorem ja_nil : PA X [] (tAOf X.K mNil) := PA.imp pa_nil (by
  rintro σ H Q ⟨G, e, d, e', rel, hm, k⟩
  cases hm
  exact k [] H .refl rel .nil)
theorem ja_cons (ha : PE X a (tOf X.K ma)) (hr : PA X es (tAOf X.K ms)) (hs : starEach (a :: es) X.env = (false, eval a X.env) :: starEach es X.env := by rfl) : PA X (a :: es) (tAOf X.K (mCons ma ms)) := by
  refine PA.imp (pa_cons ha hr hs) ?_
  rintro σ H Q ⟨G, e, d, e', rel, hm, k⟩
  obtain ⟨⟨d1, e1⟩, h1, hm⟩ := Option.bind_eq_some_iff.mp hm
  obtain ⟨⟨d2, e2⟩, h2, hm⟩ := Option.map_eq_some_iff.mp hm
  obtain ⟨rfl, rfl⟩ := Prod.mk.inj hm
  refine ⟨G, e, d1, e1, rel, h1, fun v H1 s1 r1 dp => ⟨G, e1, d2, _, r1, h2, fun vs H2 s2 r2 dps => ?_⟩⟩
  exact k _ H2 (s1.trans s2) r2 (.cons (dp_mono s2.vis dp) dps)
def mTup (m : ML) : ME := fun e => (m e).bind fun r => if szOk r.1.length = true then some (.tuple r.1, r.2) else none
theorem je_tup {x1 : Nat} (h : PA X es (tAOf X.K ms)) : PE X (.Tuple es x1 pos) (tOf X.K (mTup ms)) := by
  refine PE.imp (pe_tup h) ?_
  rintro σ H Q ⟨G, e, d, e', rel, hm, k⟩
  obtain ⟨⟨d1, e1⟩, h1, hm⟩ := Option.bind_eq_some_iff.mp hm
  simp only at hm
  split at hm
  · rename_i hz
    cases hm
    refine ⟨G, e, d1, _, rel, h1, fun vs H1 s1 r1 dps => ⟨?_, fun p hp => ?_⟩⟩
    · rw [dpa_len dps]
      exact szOk_le hz
    · exact k _ _ (s1.trans (.grow (same_new hp))) (r1.grow (same_new hp)) (dp_newT r1.ne0 hp dps)
  · cases hm
/-- a new list; new lists as data -/
def mSz (m : ML) : ML := fun e => (m e).bind fun r => if szOk r.1.length = true then some r else none
theorem jn_lst (h : PA X es (tAOf X.K ms)) : PE X (.List es pos) (tNOf X.K (mSz ms)) := by
  refine PE.imp (pe_lst h) ?_
  rintro σ H Q ⟨G, e, d, e', rel, hm, k⟩
  obtain ⟨⟨d1, e1⟩, h1, hm⟩ := Option.bind_eq_some_iff.mp hm
  simp only at hm
  split at hm
  · rename_i hz
    cases hm
    refine ⟨G, e, _, _, rel, h1, fun vs H1 s1 r1 dps => ⟨?_, fun p hp => ?_⟩⟩
    · rw [dpa_len dps]
      exact szOk_le hz
    · exact k p vs _ (s1.trans (.grow (same_new hp))) (r1.foreign hp) (s1.there p hp) upd_same (dpa_mono (vis_foreign hp) dps)
  · cases hm
def mNew (m : ML) : ME := fun e => (m e).map fun r => (.list r.1, r.2)
theorem je_new (h : PE X a (tNOf X.K ms)) : PE X a (tOf X.K (mNew ms)) := by
  refine PE.imp h ?_
  rintro σ H Q ⟨G, e, d, e', rel, hm, k⟩
  obtain ⟨⟨d1, e1⟩, h1, hm⟩ := Option.map_eq_some_iff.mp hm
  obtain ⟨rfl, rfl⟩ := Prod.mk.inj hm
  refine ⟨G, e, d1, _, rel, h1, fun p xs H1 s1 r1 hp hx dps => k _ H1 s1 r1.tame ?_⟩
  exact .lst (.of (cut_of (fun w => w.elim (fun g => rel.frn p g hp) r1.notOwn) hx)) (dpa_mono vis_tame dps)
theorem je_lst (h : PA X es (tAOf X.K ms)) : PE X (.List es pos) (tOf X.K (mNew (mSz ms))) := je_new (jn_lst h)

/-! ### built-in functions of data -/
def DoesC (K : Frag) (r : List V → Hp → VK → Prop) (f : List D → Option D) : Prop := ∀ (F : Addr → Prop) (H : Hp) (vs : List V) (ds : List D) (c : D) (Q : VK), (∀ z, F z → H z ≠ none) → DpAll K (cut H F) vs ds → f ds = some c →
  (∀ v H2, Same H H2 → Dp K (cut H2 F) v c → Q v H2) → r vs H Q
def mCB (f : List D → Option D) (m : ML) : ME := fun e => (m e).bind fun r => (f r.1).map fun z => (z, r.2)
theorem cb_of {r : List V → Hp → VK → Prop} {f : List D → Option D} (hd : DoesC K r f) : ∀ σ H Q, tOf K (mCB f ms) σ H Q → tCB r (tAOf K ms) σ H Q := by
  rintro σ H Q ⟨G, e, d, e', rel, hm, k⟩
  obtain ⟨⟨d1, e1⟩, h1, hm⟩ := Option.bind_eq_some_iff.mp hm
  obtain ⟨z, h2, hm⟩ := Option.map_eq_some_iff.mp hm
  obtain ⟨rfl, rfl⟩ := Prod.mk.inj hm
  refine ⟨G, e, d1, _, rel, h1, fun vs H1 s1 r1 dps => ?_⟩
  exact hd _ H1 vs d1 _ Q r1.ne0 dps h2 fun v H2 sm dp => k v H2 (s1.trans (.grow sm)) (r1.grow sm) dp
theorem je_callB {x : Str} {p : Pos} {id : String} {r : List V → Hp → VK → Prop} {f : List D → Option D} (hc : CallR X (.builtin id) r) (hd : DoesC X.K r f) (hg : Gl X x) (hm : X.mg x = none) (hv : bootBuiltins x = some (.builtin id)) (ha : PA X (a :: es) (tAOf X.K ms))
    (hn : x ≠ "__name__" := by decide) (hdb : (x == ("__debug__" : Str)) = false := by decide) (he : starEach (a :: es) X.env = (false, eval a X.env) :: starEach es X.env := by rfl) (hpl : (backTo pos (starEach es X.env)).any (·.1) = false := by rfl) :
    PE X (.Call (.Name x p) (a :: es) [] pos) (tOf X.K (mCB f ms)) := PE.imp (pe_callB hc hg hm hv ha hn hdb he hpl) (cb_of hd)
theorem je_callTy {x : Str} {p : Pos} {T : String} {r : List V → Hp → VK → Prop} {f : List D → Option D} (hc : CallR X (.type T) r) (hd : DoesC X.K r f) (hg : Gl X x) (hm : X.mg x = none) (hv : bootBuiltins x = some (.type T)) (ha : PA X (a :: es) (tAOf X.K ms))
    (hn : x ≠ "__name__" := by decide) (hdb : (x == ("__debug__" : Str)) = false := by decide) (he : starEach (a :: es) X.env = (false, eval a X.env) :: starEach es X.env := by rfl) (hpl : (backTo pos (starEach es X.env)).any (·.1) = false := by rfl) :
    PE X (.Call (.Name x p) (a :: es) [] pos) (tOf X.K (mCB f ms)) := PE.imp (pe_callTy hc hg hm hv ha hn hdb he hpl) (cb_of hd)
theorem dpa_one {H : Hp} {vs : List V} {d : D} (h : DpAll K H vs [d]) : ∃ v, vs = [v] ∧ Dp K H v d := by
  cases h with
  | cons h t =>
    cases t
    exact ⟨_, rfl, h⟩
/-- len -/
def fLen : List D → Option D
  | [.str s] => if szOk s.length = true then some (.int s.length) else none
  | [.list ds] => some (.int ds.length)
  | [.tuple ds] => some (.int ds.length)
  | _ => none
theorem does_len : DoesC K (fun xs H Q => ∃ x n, xs = [x] ∧ LenV K x H n ∧ Q (.int n) H) fLen := by
  intro F H vs ds c Q hF ha hf k
  unfold fLen at hf
  split at hf
  · split at hf
    · rename_i hz
      cases hf
      obtain ⟨v, rfl, h⟩ := dpa_one ha
      cases h
      exact ⟨_, _, rfl, ⟨szOk_le hz, rfl⟩, k _ _ (.refl _) (.int _)⟩
    · cases hf
  · cases hf
    obtain ⟨v, rfl, h⟩ := dpa_one ha
    obtain ⟨l, xs, rfl, h1, t1⟩ := dp_list h
    exact ⟨_, _, rfl, .inl ⟨_, same_cut.seq h1, (dpa_len t1).symm⟩, k _ _ (.refl _) (.int _)⟩
  · cases hf
    obtain ⟨v, rfl, h⟩ := dpa_one ha
    obtain ⟨l, xs, rfl, h1, t1⟩ := dp_tup h
    exact ⟨_, _, rfl, .inr ⟨_, same_tup same_cut h1, (dpa_len t1).symm⟩, k _ _ (.refl _) (.int _)⟩
  · cases hf
theorem je_len {p : Pos} (hg : Gl X "len") (hm : X.mg "len" = none) (ha : PE X a (tOf X.K ma)) (he : starEach [a] X.env = (false, eval a X.env) :: starEach [] X.env := by rfl) (hpl : (backTo pos (starEach [] X.env)).any (·.1) = false := by rfl) :
    PE X (.Call (.Name "len" p) [a] [] pos) (tOf X.K (mCB fLen (mCons ma mNil))) := je_callB call_len does_len hg hm PySem.boot_len (ja_cons ha ja_nil he) (by decide) (by decide) he hpl
/-- len of a list of one's own -/
def mLenOwn (i : Nat) : ME := fun e => match e[i]? with
  | some (some (.own _ ds)) => some (.int ds.length, e)
  | _ => none
theorem je_lenOwn (i : Nat) {x : Str} {p q : Pos} (hg : Gl X "len") (hm : X.mg "len" = none) (hN : X.N[i]? = some x := by rfl) (hv : Vis X.env.scope x := by first | exact Or.inl rfl | exact Or.inr (Or.inl rfl) | exact Or.inr (Or.inr rfl))
    (hd : (x == ("__debug__" : Str)) = false := by decide) (hcd : (x == ("__classdict__" : Str)) = false := by decide) (he : starEach [.Name x q] X.env = (false, eval (.Name x q) X.env) :: starEach [] X.env := by rfl) (hpl : (backTo pos (starEach [] X.env)).any (·.1) = false := by rfl) :
    PE X (.Call (.Name "len" p) [.Name x q] [] pos) (tOf X.K (mLenOwn i)) := by
  refine PE.imp (pe_callB call_len hg hm PySem.boot_len (pa_cons (pe_var hN hv hd hcd) pa_nil he) (by decide) (by decide) he hpl) ?_
  rintro σ H Q ⟨G, e, d, e', rel, hm, k⟩
  unfold mLenOwn at hm
  split at hm
  · rename_i b ds h
    cases hm
    obtain ⟨p', xs, s1, hx, hd2, _⟩ := rel.own i _ _ h
    exact ⟨.ref p', s1, _, _, rfl, .inl ⟨_, .of hx, (dpa_len hd2).symm⟩, k _ _ .refl rel (.int _)⟩
  · cases hm
/-- all, any of a list of truths -/
def bools : List D → Option (List Bool)
  | [] => some []
  | .bool b :: r => (bools r).map (b :: ·)
  | _ :: _ => none
theorem dpa_bools {H : Hp} : ∀ {ds : List D} {vs : List V} {bs : List Bool}, DpAll K H vs ds → bools ds = some bs → vs = bs.map V.bl
  | [], _, _, .nil, h => by cases h; rfl
  | d :: ds, _, bs, .cons h t, e => by
    unfold bools at e
    split at e
    · rename_i h'
      cases h'
    · rename_i b r h'
      cases h'
      obtain ⟨bs', h1, h2⟩ := Option.map_eq_some_iff.mp e
      subst h2
      cases h
      rw [dpa_bools t h1]
      rfl
    · cases e
def fAll : List D → Option D
  | [.list ds] => (bools ds).map fun bs => .bool (bs.all id)
  | _ => none
def fAny : List D → Option D
  | [.list ds] => (bools ds).map fun bs => .bool (bs.any id)
  | _ => none
theorem does_all : DoesC K (rAll K) fAll := by
  intro F H vs ds c Q hF ha hf k
  unfold fAll at hf
  split at hf
  · obtain ⟨bs, h1, h2⟩ := Option.map_eq_some_iff.mp hf
    subst h2
    obtain ⟨v, rfl, h⟩ := dpa_one ha
    obtain ⟨l, xs, rfl, q1, t1⟩ := dp_list h
    have ex := dpa_bools t1 h1
    subst ex
    exact ⟨l, bs, rfl, same_cut.seq q1, k _ _ (.refl _) (.bl _)⟩
  · cases hf
theorem does_any : DoesC K (rAny K) fAny := by
  intro F H vs ds c Q hF ha hf k
  unfold fAny at hf
  split at hf
  · obtain ⟨bs, h1, h2⟩ := Option.map_eq_some_iff.mp hf
    subst h2
    obtain ⟨v, rfl, h⟩ := dpa_one ha
    obtain ⟨l, xs, rfl, q1, t1⟩ := dp_list h
    have ex := dpa_bools t1 h1
    subst ex
    exact ⟨l, bs, rfl, same_cut.seq q1, k _ _ (.refl _) (.bl _)⟩
  · cases hf
theorem boot_all' : bootBuiltins "all" = some (.builtin "all") := by decide +kernel
theorem boot_any' : bootBuiltins "any" = some (.builtin "any") := by decide +kernel
theorem je_all {p : Pos} (hc : X.calm = true) (hg : Gl X "all") (hm : X.mg "all" = none) (ha : PE X a (tOf X.K ma)) (he : starEach [a] X.env = (false, eval a X.env) :: starEach [] X.env := by rfl) (hpl : (backTo pos (starEach [] X.env)).any (·.1) = false := by rfl) :
    PE X (.Call (.Name "all" p) [a] [] pos) (tOf X.K (mCB fAll (mCons ma mNil))) := je_callB (cr_all hc) does_all hg hm boot_all' (ja_cons ha ja_nil he) (by decide) (by decide) he hpl
theorem je_any {p : Pos} (hc : X.calm = true) (hg : Gl X "any") (hm : X.mg "any" = none) (ha : PE X a (tOf X.K ma)) (he : starEach [a] X.env = (false, eval a X.env) :: starEach [] X.env := by rfl) (hpl : (backTo pos (starEach [] X.env)).any (·.1) = false := by rfl) :
    PE X (.Call (.Name "any" p) [a] [] pos) (tOf X.K (mCB fAny (mCons ma mNil))) := je_callB (cr_any hc) does_any hg hm boot_any' (ja_cons ha ja_nil he) (by decide) (by decide) he hpl
/-- tuple(x) -/
def fTuple : List D → Option D
  | [.list ds] => some (.tuple ds)
  | [.tuple ds] => some (.tuple ds)
  | _ => none
theorem does_tuple : DoesC K (fun xs H Q => ∃ p ys, xs = [.ref p] ∧ ((SqL K H p ys ∧ ∀ l, H l = none → Q (.ref l) (upd H l (.tup ys))) ∨ (SqT K H p ys ∧ Q (.ref p) H))) fTuple := by
  intro F H vs ds c Q hF ha hf k
  unfold fTuple at hf
  split at hf
  · cases hf
    obtain ⟨v, rfl, h⟩ := dpa_one ha
    obtain ⟨l, xs, rfl, q1, t1⟩ := dp_list h
    exact ⟨l, xs, rfl, .inl ⟨same_cut.seq q1, fun p hp => k _ _ (same_new hp) (dp_newT hF hp t1)⟩⟩
  · cases hf
    obtain ⟨v, rfl, h⟩ := dpa_one ha
    have h' := h
    obtain ⟨l, xs, rfl, q1, t1⟩ := dp_tup h
    exact ⟨l, xs, rfl, .inr ⟨same_tup same_cut q1, k _ _ (.refl _) h'⟩⟩
  · cases hf
theorem boot_tuple' : bootBuiltins "tuple" = some (.type "tuple") := by decide +kernel
theorem boot_list' : bootBuiltins "list" = some (.type "list") := by decide +kernel
theorem boot_str' : bootBuiltins "str" = some (.type "str") := by decide +kernel
theorem boot_isi' : bootBuiltins "isinstance" = some (.builtin "isinstance") := by decide +kernel
theorem je_tuple {p : Pos} (hg : Gl X "tuple") (hm : X.mg "tuple" = none) (ha : PE X a (tOf X.K ma)) (he : starEach [a] X.env = (false, eval a X.env) :: starEach [] X.env := by rfl) (hpl : (backTo pos (starEach [] X.env)).any (·.1) = false := by rfl) :
    PE X (.Call (.Name "tuple" p) [a] [] pos) (tOf X.K (mCB fTuple (mCons ma mNil))) := je_callTy call_tuple_of does_tuple hg hm boot_tuple' (ja_cons ha ja_nil he) (by decide) (by decide) he hpl
/-- str(n), str of a truth -/
def fStr : List D → Option D
  | [.int i] => if i.natAbs.log2 < 1920 then some (.str (toString i)) else none
  | [.bool b] => some (.str (if b then "True" else "False"))
  | _ => none
theorem call_str_bool : CallR X (.type "str") (fun xs H Q => ∃ b : Bool, xs = [.bl b] ∧ Q (.str (if b then "True" else "False")) H) := by
  intro pins s σ H xs us Q I r h
  obtain ⟨b, rfl, q⟩ := h
  obtain ⟨u, rfl, rb⟩ := vals1 r
  cases rb
  exact PySem.P.str_of_bool ⟨.str _, H, I.tok _, ⟨_, rfl⟩, q⟩
theorem does_str : DoesC K (fun xs H Q => (∃ i : Int, xs = [.int i] ∧ i.natAbs.log2 < 1920 ∧ Q (.str (toString i)) H) ∨ ∃ b : Bool, xs = [.bl b] ∧ Q (.str (if b then "True" else "False")) H) fStr := by
  intro F H vs ds c Q hF ha hf k
  unfold fStr at hf
  split at hf
  · split at hf
    · rename_i hz
      cases hf
      obtain ⟨v, rfl, h⟩ := dpa_one ha
      cases h
      exact .inl ⟨_, rfl, hz, k _ _ (.refl _) (.str _)⟩
    · cases hf
  · cases hf
    obtain ⟨v, rfl, h⟩ := dpa_one ha
    cases h
    exact .inr ⟨_, rfl, k _ _ (.refl _) (.str _)⟩
  · cases hf
theorem je_strI {p : Pos} (hg : Gl X "str") (hm : X.mg "str" = none) (ha : PE X a (tOf X.K ma)) (he : starEach [a] X.env = (false, eval a X.env) :: starEach [] X.env := by rfl) (hpl : (backTo pos (starEach [] X.env)).any (·.1) = false := by rfl) :
    PE X (.Call (.Name "str" p) [a] [] pos) (tOf X.K (mCB fStr (mCons ma mNil))) := je_callTy (call_str_int.or call_str_bool) does_str hg hm boot_str' (ja_cons ha ja_nil he) (by decide) (by decide) he hpl
/-- list(x): a new list -/
def seqOf : D → Option (List D)
  | .list ds => some ds
  | .tuple ds => some ds
  | _ => none
def mListOf (a : ME) : ML := fun e => (a e).bind fun r => (seqOf r.1).map fun ds => (ds, r.2)
theorem jn_list {p : Pos} (hg : Gl X "list") (hm : X.mg "list" = none) (ha : PE X a (tOf X.K ma)) (he : starEach [a] X.env = (false, eval a X.env) :: starEach [] X.env := by rfl) (hpl : (backTo pos (starEach [] X.env)).any (·.1) = false := by rfl) :
    PE X (.Call (.Name "list" p) [a] [] pos) (tNOf X.K (mListOf ma)) := by
  refine PE.imp (pe_callTy call_list_of hg hm boot_list' (pa_cons ha pa_nil he) (by decide) (by decide) he hpl) ?_
  rintro σ H Q ⟨G, e, d, e', rel, hm, k⟩
  obtain ⟨⟨d1, e1⟩, h1, hm⟩ := Option.bind_eq_some_iff.mp hm
  obtain ⟨z, h2, hm⟩ := Option.map_eq_some_iff.mp hm
  obtain ⟨rfl, rfl⟩ := Prod.mk.inj hm
  refine ⟨G, e, d1, _, rel, h1, fun v H1 s1 r1 dp => ?_⟩
  have fin : ∀ (l : Addr) (xs : List V) (p : Addr), H1 p = none → DpAll X.K (vis G σ _ H1) xs _ → Q (.ref p) (upd H1 p (.lst xs)) := fun l xs p hp t1 => by
    exact k p xs _ (s1.trans (.grow (same_new hp))) (r1.foreign hp) (s1.there p hp) upd_same (dpa_mono (vis_foreign hp) t1)
  simp only at h2
  unfold seqOf at h2
  split at h2
  · cases h2
    obtain ⟨l, xs, rfl, q1, t1⟩ := dp_list dp
    exact ⟨l, xs, rfl, .inl (same_cut.seq q1), fun p hp => fin l xs p hp t1⟩
  · cases h2
    obtain ⟨l, xs, rfl, q1, t1⟩ := dp_tup dp
    exact ⟨l, xs, rfl, .inr (same_tup same_cut q1), fun p hp => fin l xs p hp t1⟩
  · cases h2

/-! ### isinstance -/
def tyN : D → String
  | .none => "NoneType"
  | .bool _ => "bool"
  | .int _ => "int"
  | .str _ => "str"
  | .list _ => "list"
  | .tuple _ => "tuple"
  | .dict _ => "dict"
theorem tyx_of {H : Hp} {v : V} {d : D} (h : Dp K H v d) : TyX K H v (.type (tyN d)) := by
  cases h with
  | non => exact .base .non
  | bl b => exact .base (.bl b)
  | int i => exact .base (.int i)
  | str s => exact .base (.str s)
  | lst q t =>
    rcases q with (q | ⟨o, q⟩) | ⟨o, its, n, q, hc, _⟩
    · exact .base (.lst q)
    · exact .base (.frz q)
    · exact .kList q hc
  | tup q t =>
    rcases q with (q | ⟨o, q⟩) | ⟨o, its, n, q, hc, _⟩
    · exact .base (.tup q)
    · exact .fTuple q
    · exact .kTuple q hc
def mIsi (T : String) (a : ME) : ME := fun e => (a e).bind fun r => (kitB (tyN r.1) T).map fun b => (.bool b, r.2)
theorem je_isi {T : String} {x : Str} {p q : Pos} (hg : Gl X "isinstance") (hm : X.mg "isinstance" = none) (ha : PE X a (tOf X.K ma)) (hgT : Gl X x) (hmT : X.mg x = none) (hvT : bootBuiltins x = some (.type T)) (hn : x ≠ "__name__" := by decide) (hd : (x == ("__debug__" : Str)) = false := by decide)
    (he : starEach [a, .Name x q] X.env = (false, eval a X.env) :: starEach [.Name x q] X.env := by rfl) (he2 : starEach [.Name x q] X.env = (false, eval (.Name x q) X.env) :: starEach [] X.env := by rfl) (hpl : (backTo pos (starEach [.Name x q] X.env)).any (·.1) = false := by rfl) :
    PE X (.Call (.Name "isinstance" p) [a, .Name x q] [] pos) (tOf X.K (mIsi T ma)) := by
  refine PE.imp (pe_callB call_isi hg hm boot_isi' (pa_cons ha (pa_cons (pe_bltn (v := .ty T) hgT hmT hvT rfl hn hd) pa_nil he2) he) (by decide) (by decide) he hpl) ?_
  rintro σ H Q ⟨G, e, d, e', rel, hm, k⟩
  obtain ⟨⟨d1, e1⟩, h1, hm⟩ := Option.bind_eq_some_iff.mp hm
  obtain ⟨z, h2, hm⟩ := Option.map_eq_some_iff.mp hm
  obtain ⟨rfl, rfl⟩ := Prod.mk.inj hm
  refine ⟨G, e, d1, _, rel, h1, fun v H1 s1 r1 dp => ?_⟩
  exact ⟨v, .ty T, _, _, z, rfl, .ty T, tyx_of (dp_mono same_cut dp), kit_ty h2, k _ _ s1 r1 (.bl _)⟩
/-- isinstance(x, (S, T)) -/
def kitB2 (t S T : String) : Option Bool := match kitB t S with
  | some true => some true
  | some false => kitB t T
  | none => none
def mIsi2 (S T : String) (a : ME) : ME := fun e => (a e).bind fun r => (kitB2 (tyN r.1) S T).map fun b => (.bool b, r.2)
theorem je_isi2 {S T : String} {x y : Str} {p q q2 q3 : Pos} {kk : Nat} (hg : Gl X "isinstance") (hm : X.mg "isinstance" = none) (ha : PE X a (tOf X.K ma)) (hgS : Gl X x) (hmS : X.mg x = none) (hvS : bootBuiltins x = some (.type S)) (hgT : Gl X y) (hmT : X.mg y = none) (hvT : bootBuiltins y = some (.type T))
    (hn : x ≠ "__name__" := by decide) (hd : (x == ("__debug__" : Str)) = false := by decide) (hn2 : y ≠ "__name__" := by decide) (hd2 : (y == ("__debug__" : Str)) = false := by decide)
    (he : starEach [a, .Tuple [.Name x q, .Name y q2] kk q3] X.env = (false, eval a X.env) :: starEach [.Tuple [.Name x q, .Name y q2] kk q3] X.env := by rfl) (he2 : starEach [.Tuple [.Name x q, .Name y q2] kk q3] X.env = (false, eval (.Tuple [.Name x q, .Name y q2] kk q3) X.env) :: starEach [] X.env := by rfl)
    (he3 : starEach [.Name x q, .Name y q2] X.env = (false, eval (.Name x q) X.env) :: starEach [.Name y q2] X.env := by rfl) (he4 : starEach [.Name y q2] X.env = (false, eval (.Name y q2) X.env) :: starEach [] X.env := by rfl)
    (hpl : (backTo pos (starEach [.Tuple [.Name x q, .Name y q2] kk q3] X.env)).any (·.1) = false := by rfl) :
    PE X (.Call (.Name "isinstance" p) [a, .Tuple [.Name x q, .Name y q2] kk q3] [] pos) (tOf X.K (mIsi2 S T ma)) := by
  refine PE.imp (pe_callB call_isiT hg hm boot_isi' (pa_cons ha (pa_cons (pe_tup (pa_cons (pe_bltn (v := .ty S) hgS hmS hvS rfl hn hd) (pa_cons (pe_bltn (v := .ty T) hgT hmT hvT rfl hn2 hd2) pa_nil he4) he3)) pa_nil he2) he) (by decide) (by decide) he hpl) ?_
  rintro σ H Q ⟨G, e, d, e', rel, hm, k⟩
  obtain ⟨⟨d1, e1⟩, h1, hm⟩ := Option.bind_eq_some_iff.mp hm
  obtain ⟨z, h2, hm⟩ := Option.map_eq_some_iff.mp hm
  obtain ⟨rfl, rfl⟩ := Prod.mk.inj hm
  refine ⟨G, e, d1, _, rel, h1, fun v H1 s1 r1 dp => ⟨by show 2 ≤ sizeLine; decide, fun t ht => ?_⟩⟩
  refine ⟨v, t, [.ty S, .ty T], _, [.type S, .type T], z, rfl, upd_same, .cons (.ty S) (.cons (.ty T) .nil), tyx_of (dp_mono (same_cut.trans (same_new ht)) dp), ?_, k _ _ (s1.trans (.grow (same_new ht))) (r1.grow (same_new ht)) (.bl _)⟩
  simp only at h2
  unfold kitB2 at h2
  split at h2
  · rename_i hb
    cases h2
    exact kitAny_cons (kit_ty hb) (fun q => nomatch q) (fun _ => rfl)
  · rename_i hb
    refine kitAny_cons (kit_ty hb) (fun _ => ?_) (fun q => nomatch q)
    cases z with
    | true => exact kitAny_cons (kit_ty h2) (fun q => nomatch q) (fun _ => rfl)
    | false => exact kitAny_cons (kit_ty h2) (fun _ => kitAny_nil) (fun q => nomatch q)
  · cases h2
end
end PB

set_option maxHeartbeats 4000000
namespace PB
open PySem PySem.Spec PyProof.Rows L2

/-! ### what is walked -/
structure WalkD (K : Frag) (J : It) (Hv : Hp) (ds : List D) : Prop where
  go : ∀ i H, Same Hv H → i < ds.length → J.go i H
  stop : ∀ i H, Same Hv H → ds.length ≤ i → J.stop i H
  yld : ∀ (i : Nat) (H : Hp) (F : Addr → Prop) (x : V) (H' : Hp) (d : D), Same Hv (cut H F) → (∀ a, F a → H a ≠ none) → ds[i]? = some d → J.yld i H x H' → Same H H' ∧ Dp K (cut H' F) x d
def tIOf (K : Frag) (m : ML) : TI := fun σ H R => ∃ G e ds e', Rel K G σ H e ∧ m e = some (ds, e') ∧ ∀ J H', Step σ e H σ e' H' → Rel K G σ H' e' → WalkD K J (vis G σ e' H') ds → R J H'
section
variable {K : Frag} {Hv : Hp} {a : Addr} {xs : List V} {ds : List D}
theorem walk_list (h : SqL K Hv a xs) (t : DpAll K Hv xs ds) : WalkD K (Itl K a) Hv ds where
  go := fun i H s hi => by
    rw [← dpa_len t] at hi
    exact ⟨xs, xs[i], s.seq h, List.getElem?_eq_getElem hi⟩
  stop := fun i H s hi => ⟨xs, s.seq h, by rw [dpa_len t]; exact hi⟩
  yld := fun i H F x H' d s hF hd y => by
    obtain ⟨rfl, y⟩ := y
    obtain ⟨u, h1, h2⟩ := dpa_get t hd
    have e := y xs (same_cut.seq (s.seq h))
    rw [h1] at e
    cases e
    exact ⟨.refl _, dp_mono s h2⟩
theorem walk_tup (h : SqT K Hv a xs) (t : DpAll K Hv xs ds) : WalkD K (Itt K a) Hv ds where
  go := fun i H s hi => by
    rw [← dpa_len t] at hi
    exact ⟨xs, xs[i], same_tup s h, List.getElem?_eq_getElem hi⟩
  stop := fun i H s hi => ⟨xs, same_tup s h, by rw [dpa_len t]; exact hi⟩
  yld := fun i H F x H' d s hF hd y => by
    obtain ⟨rfl, y⟩ := y
    obtain ⟨u, h1, h2⟩ := dpa_get t hd
    have e := y xs (same_tup same_cut (same_tup s h))
    rw [h1] at e
    cases e
    exact ⟨.refl _, dp_mono s h2⟩
def signs (s : Str) : List D := s.cps.toList.map fun c => .str ⟨#[c]⟩
theorem walk_str {s : Str} : WalkD K (Its s) Hv (signs s) where
  go := fun i H _ hi => by
    unfold signs at hi
    rw [List.length_map, Array.length_toList] at hi
    exact hi
  stop := fun i H _ hi => by
    unfold signs at hi
    rw [List.length_map, Array.length_toList] at hi
    exact hi
  yld := fun i H F x H' d s hF hd y => by
    obtain ⟨rfl, c, h1, rfl⟩ := y
    unfold signs at hd
    rw [List.getElem?_map, Array.getElem?_toList, h1] at hd
    cases hd
    exact ⟨.refl _, .str _⟩
def rangeD (lo : Int) (n : Nat) : List D := (List.range n).map fun i => .int (lo + (i : Nat))
theorem rangeD_len (lo : Int) (n : Nat) : (rangeD lo n).length = n := by
  unfold rangeD
  rw [List.length_map, List.length_range]
theorem walk_range {lo : Int} {n : Nat} : WalkD K (Itr lo n) Hv (rangeD lo n) where
  go := fun i H _ hi => by rw [rangeD_len] at hi; exact hi
  stop := fun i H _ hi => by rw [rangeD_len] at hi; exact hi
  yld := fun i H F x H' d s hF hd y => by
    obtain ⟨rfl, rfl⟩ := y
    have hi := (List.getElem?_eq_some_iff.mp hd).1
    rw [rangeD_len] at hi
    unfold rangeD at hd
    rw [List.getElem?_map, List.getElem?_range hi] at hd
    cases hd
    exact ⟨.refl _, .int _⟩
def zipD : List D → List D → List D
  | a :: r, b :: s => .tuple [a, b] :: zipD r s
  | _, _ => []
theorem zipD_get : ∀ {as bs : List D} {i : Nat} {d : D}, (zipD as bs)[i]? = some d → ∃ a b, as[i]? = some a ∧ bs[i]? = some b ∧ d = .tuple [a, b]
  | [], _, _, _, h => by simp [zipD] at h
  | _ :: _, [], _, _, h => by simp [zipD] at h
  | a :: r, b :: s, 0, d, h => by
    have e : PyData.tuple [a, b] = d := Option.some.inj h
    exact ⟨a, b, rfl, rfl, e.symm⟩
  | a :: r, b :: s, i + 1, d, h => by
    have h' : (zipD r s)[i]? = some d := h
    obtain ⟨x, y, h1, h2, h3⟩ := zipD_get h'
    exact ⟨x, y, h1, h2, h3⟩
theorem zipD_len : ∀ (as bs : List D), (zipD as bs).length = min as.length bs.length
  | [], _ => by simp [zipD]
  | _ :: _, [] => by simp [zipD]
  | a :: r, b :: s => by
    show (zipD r s).length + 1 = _
    rw [zipD_len r s]
    simp only [List.length_cons]
    omega
theorem pair_new {H : Hp} {F : Addr → Prop} {T : Addr} {x y : V} {a b : D} (hF : ∀ z, F z → H z ≠ none) (hT : H T = none) (h1 : Dp K (cut H F) x a) (h2 : Dp K (cut H F) y b) : Dp K (cut (upd H T (.tup [x, y])) F) (.ref T) (.tuple [a, b]) :=
  dp_newT hF hT (.cons h1 (.cons h2 .nil))
theorem walk_zip {b : Addr} {ys : List V} {es : List D} (h : SqL K Hv a xs) (t : DpAll K Hv xs ds) (h2 : SqL K Hv b ys) (t2 : DpAll K Hv ys es) : WalkD K (Itz K a b) Hv (zipD ds es) where
  go := fun i H s hi => by
    rw [zipD_len, ← dpa_len t, ← dpa_len t2] at hi
    exact ⟨xs, ys, xs[i]'(by omega), ys[i]'(by omega), s.seq h, s.seq h2, List.getElem?_eq_getElem _, List.getElem?_eq_getElem _⟩
  stop := fun i H s hi => by
    rw [zipD_len, ← dpa_len t, ← dpa_len t2] at hi
    exact ⟨xs, ys, s.seq h, s.seq h2, by omega⟩
  yld := fun i H F x H' d s hF hd y => by
    obtain ⟨T, x1, x2, rfl, hT, rfl, y1, y2⟩ := y
    obtain ⟨d1, d2, e1, e2, rfl⟩ := zipD_get hd
    obtain ⟨u1, q1, p1⟩ := dpa_get t e1
    obtain ⟨u2, q2, p2⟩ := dpa_get t2 e2
    have z1 := y1 xs (same_cut.seq (s.seq h))
    have z2 := y2 ys (same_cut.seq (s.seq h2))
    rw [q1] at z1
    rw [q2] at z2
    cases z1
    cases z2
    exact ⟨same_new hT, pair_new hF hT (dp_mono s p1) (dp_mono s p2)⟩
theorem walk_zipT {b : Addr} {ys : List V} {es : List D} (h : SqT K Hv a xs) (t : DpAll K Hv xs ds) (h2 : SqT K Hv b ys) (t2 : DpAll K Hv ys es) : WalkD K (RZ.ItzT K a b) Hv (zipD ds es) where
  go := fun i H s hi => by
    rw [zipD_len, ← dpa_len t, ← dpa_len t2] at hi
    exact ⟨xs, ys, xs[i]'(by omega), ys[i]'(by omega), same_tup s h, same_tup s h2, List.getElem?_eq_getElem _, List.getElem?_eq_getElem _⟩
  stop := fun i H s hi => by
    rw [zipD_len, ← dpa_len t, ← dpa_len t2] at hi
    exact ⟨xs, ys, same_tup s h, same_tup s h2, by omega⟩
  yld := fun i H F x H' d s hF hd y => by
    obtain ⟨T, x1, x2, rfl, hT, rfl, y1, y2⟩ := y
    obtain ⟨d1, d2, e1, e2, rfl⟩ := zipD_get hd
    obtain ⟨u1, q1, p1⟩ := dpa_get t e1
    obtain ⟨u2, q2, p2⟩ := dpa_get t2 e2
    have z1 := y1 xs (same_tup same_cut (same_tup s h))
    have z2 := y2 ys (same_tup same_cut (same_tup s h2))
    rw [q1] at z1
    rw [q2] at z2
    cases z1
    cases z2
    exact ⟨same_new hT, pair_new hF hT (dp_mono s p1) (dp_mono s p2)⟩
def enumFrom (n : Nat) : List D → List D
  | [] => []
  | d :: r => .tuple [.int (n : Nat), d] :: enumFrom (n + 1) r
theorem enum_len : ∀ (n : Nat) (ds : List D), (enumFrom n ds).length = ds.length
  | _, [] => rfl
  | n, d :: r => by
    show (enumFrom (n + 1) r).length + 1 = _
    rw [enum_len (n + 1) r]
    rfl
theorem enum_get : ∀ {n : Nat} {ds : List D} {i : Nat} {d : D}, (enumFrom n ds)[i]? = some d → ∃ x, ds[i]? = some x ∧ d = .tuple [.int ((n + i : Nat) : Int), x]
  | _, [], _, _, h => by simp [enumFrom] at h
  | n, x :: r, 0, d, h => by
    have e : PyData.tuple [.int (n : Nat), x] = d := Option.some.inj h
    exact ⟨x, rfl, e.symm⟩
  | n, x :: r, i + 1, d, h => by
    have h' : (enumFrom (n + 1) r)[i]? = some d := h
    obtain ⟨y, h1, h2⟩ := enum_get h'
    exact ⟨y, h1, by rw [h2, Nat.add_right_comm]; rfl⟩
theorem walk_enum (h : SqL K Hv a xs) (t : DpAll K Hv xs ds) : WalkD K (Ite K a) Hv (enumFrom 0 ds) where
  go := fun i H s hi => by
    rw [enum_len, ← dpa_len t] at hi
    exact ⟨xs, xs[i], s.seq h, List.getElem?_eq_getElem hi⟩
  stop := fun i H s hi => by
    rw [enum_len, ← dpa_len t] at hi
    exact ⟨xs, s.seq h, hi⟩
  yld := fun i H F x H' d s hF hd y => by
    obtain ⟨T, x1, rfl, hT, rfl, y1⟩ := y
    obtain ⟨d1, e1, rfl⟩ := enum_get hd
    obtain ⟨u1, q1, p1⟩ := dpa_get t e1
    have z1 := y1 xs (same_cut.seq (s.seq h))
    rw [q1] at z1
    cases z1
    rw [Nat.zero_add]
    exact ⟨same_new hT, pair_new hF hT (.int _) (dp_mono s p1)⟩
end
section
variable {K : Frag} {X : Cx} {tg a b : Expr} {ma mb : ME} {ms : ML} {pos p : Pos}
/-- list, tuple, text -/
def iAny (K : Frag) (te : TE) : TI := fun σ H R => te σ H fun x H1 => (∃ a, x = .ref a ∧ (∃ xs, SqL K H1 a xs) ∧ R (Itl K a) H1) ∨ (∃ a, x = .ref a ∧ (∃ xs, SqT K H1 a xs) ∧ R (Itt K a) H1) ∨ ∃ s, x = .str s ∧ R (Its s) H1
theorem pi_any {te : TE} (he : PE X a te) : PI X tg a (iAny X.K te) := by
  refine ⟨fun pins s σ H R I h => ?_⟩
  refine thn (he.run pins s σ H _ I h) fun v s1 ⟨x, H1, I1, r1, q1⟩ => ?_
  rcases q1 with ⟨a, rfl, ⟨xs, hq⟩, q⟩ | ⟨a, rfl, ⟨xs, hq⟩, q⟩ | ⟨z, rfl, q⟩
  · cases r1
    obtain ⟨its, rv, pl, hz⟩ := I1.list hq
    refine wpAny_pyIter_list pl.isList ?_
    refine ⟨s1.heap.objs.size, [s1.heap.objs.size], _, _, H1, rfl, I1.kept (t' := s1.toks) fun b o e => Heap.get?_push_of_some _ e, turn_list a _, ⟨_, Heap.get?_push_size _ rfl, rfl, rfl⟩, fun b hb => ?_, q⟩
    have e : b = s1.heap.objs.size := by simpa using hb
    subst e
    exact I1.fpOk (Nat.le_refl _) (I1.hok.fresh (Nat.le_refl _))
  · cases r1
    obtain ⟨its, rv, pl, hz⟩ := I1.tuple hq
    refine wpAny_pyIter_tuple (show s1.heap.IsTuple a its.toArray from pl) ?_
    refine ⟨s1.heap.objs.size, [s1.heap.objs.size], _, _, H1, rfl, I1.kept (t' := s1.toks) fun b o e => Heap.get?_push_of_some _ e, turn_tuple a _, ⟨_, Heap.get?_push_size _ rfl, rfl, rfl⟩, fun b hb => ?_, q⟩
    have e : b = s1.heap.objs.size := by simpa using hb
    subst e
    exact I1.fpOk (Nat.le_refl _) (I1.hok.fresh (Nat.le_refl _))
  · obtain ⟨t, rfl⟩ := r1
    cases ha : z.cps.all (· < 128)
    · exact wpAny_pyIter_wide ha (pi_one (tk := s1.toks) I1 _ (turn_str _ z t "str_iterator" (.inr rfl)) ⟨_, Heap.get?_push_size _ rfl, rfl, rfl⟩ q)
    · exact wpAny_pyIter_ascii ha (pi_one (tk := s1.toks) I1 _ (turn_str _ z t "str_ascii_iterator" (.inl rfl)) ⟨_, Heap.get?_push_size _ rfl, rfl, rfl⟩ q)
def itemsOf : D → Option (List D)
  | .list ds => some ds
  | .tuple ds => some ds
  | .str s => some (signs s)
  | _ => none
def mIt (a : ME) : ML := fun e => (a e).bind fun r => (itemsOf r.1).map fun ds => (ds, r.2)
theorem ji_any (ha : PE X a (tOf X.K ma)) : PI X tg a (tIOf X.K (mIt ma)) := by
  refine PI.imp (pi_any ha) ?_
  rintro σ H Q ⟨G, e, d, e', rel, hm, k⟩
  obtain ⟨⟨d1, e1⟩, h1, hm⟩ := Option.bind_eq_some_iff.mp hm
  obtain ⟨z, h2, hm⟩ := Option.map_eq_some_iff.mp hm
  obtain ⟨rfl, rfl⟩ := Prod.mk.inj hm
  refine ⟨G, e, d1, _, rel, h1, fun v H1 s1 r1 dp => ?_⟩
  simp only at h2
  unfold itemsOf at h2
  split at h2
  · cases h2
    obtain ⟨l, xs, rfl, q1, t1⟩ := dp_list dp
    exact .inl ⟨l, rfl, ⟨xs, same_cut.seq q1⟩, k _ H1 s1 r1 (walk_list q1 t1)⟩
  · cases h2
    obtain ⟨l, xs, rfl, q1, t1⟩ := dp_tup dp
    exact .inr (.inl ⟨l, rfl, ⟨xs, same_tup same_cut q1⟩, k _ H1 s1 r1 (walk_tup q1 t1)⟩)
  · cases h2
    cases dp
    exact .inr (.inr ⟨_, rfl, k _ H1 s1 r1 walk_str⟩)
  · cases h2
def mRange1 (a : ME) : ML := fun e => (a e).bind fun r => match r.1 with
  | .int n => if n ≤ 100000 ∧ -100000 ≤ n then some (rangeD 0 n.toNat, r.2) else none
  | _ => none
theorem ji_range1 (hg : Gl X "range") (hm : X.mg "range" = none) (ha : PE X a (tOf X.K ma)) (he : starEach [a] X.env = (false, eval a X.env) :: starEach [] X.env := by rfl) (hs : starEach [a] X.env = [(false, eval a X.env)] := by rfl) :
    PI X tg (.Call (.Name "range" p) [a] [] pos) (tIOf X.K (mRange1 ma)) := by
  refine PI.imp (pi_range1 hg hm (pa_cons ha pa_nil he) hs) ?_
  rintro σ H Q ⟨G, e, d, e', rel, hm, k⟩
  obtain ⟨⟨d1, e1⟩, h1, hm⟩ := Option.bind_eq_some_iff.mp hm
  simp only at hm
  split at hm
  · split at hm
    · rename_i hn
      cases hm
      refine ⟨G, e, _, _, rel, h1, fun v H1 s1 r1 dp => ?_⟩
      cases dp
      exact ⟨_, rfl, by omega, by omega, k _ H1 s1 r1 walk_range⟩
    · cases hm
  · cases hm
def mRange2 (a b : ME) : ML := fun e => (a e).bind fun r => (b r.2).bind fun q => match r.1, q.1 with
  | .int m, .int n => if (n ≤ 100000 ∧ -100000 ≤ n) ∧ (m ≤ 100000 ∧ -100000 ≤ m) then some (rangeD m (n - m).toNat, q.2) else none
  | _, _ => none
theorem ji_range2 (hg : Gl X "range") (hm : X.mg "range" = none) (ha : PE X a (tOf X.K ma)) (hb : PE X b (tOf X.K mb)) (hs : starEach [a, b] X.env = [(false, eval a X.env), (false, eval b X.env)] := by rfl) (hs2 : starEach [b] X.env = [(false, eval b X.env)] := by rfl)
    (he : starEach [a, b] X.env = (false, eval a X.env) :: starEach [b] X.env := by rfl) (he2 : starEach [b] X.env = (false, eval b X.env) :: starEach [] X.env := by rfl) : PI X tg (.Call (.Name "range" p) [a, b] [] pos) (tIOf X.K (mRange2 ma mb)) := by
  refine PI.imp (pi_range2 hg hm (pa_cons ha (pa_cons hb pa_nil he2) he) hs hs2) ?_
  rintro σ H Q ⟨G, e, d, e', rel, hm, k⟩
  obtain ⟨⟨d1, e1⟩, h1, hm⟩ := Option.bind_eq_some_iff.mp hm
  obtain ⟨⟨d2, e2⟩, h2, hm⟩ := Option.bind_eq_some_iff.mp hm
  simp only at hm
  split at hm
  · split at hm
    · rename_i hn
      cases hm
      refine ⟨G, e, _, _, rel, h1, fun v H1 s1 r1 dp => ⟨G, e1, _, _, r1, h2, fun v2 H2 s2 r2 dp2 => ?_⟩⟩
      cases dp
      cases dp2
      exact ⟨_, _, rfl, by omega, k _ H2 (s1.trans s2) r2 walk_range⟩
    · cases hm
  · cases hm
def zipOf : D → D → Option (List D)
  | .list a, .list b => some (zipD a b)
  | .tuple a, .tuple b => some (zipD a b)
  | _, _ => none
def mZip (a b : ME) : ML := fun e => (a e).bind fun r => (b r.2).bind fun q => (zipOf r.1 q.1).map fun z => (z, q.2)
theorem ji_zip {elts : List Expr} {kk : Nat} {tpos : Pos} (hg : Gl X "zip") (hm : X.mg "zip" = none) (ha : PE X a (tOf X.K ma)) (hb : PE X b (tOf X.K mb)) (he : starEach [a, b] X.env = (false, eval a X.env) :: starEach [b] X.env := by rfl) (he2 : starEach [b] X.env = (false, eval b X.env) :: starEach [] X.env := by rfl)
    (hpl : (backTo pos (starEach [b] X.env)).any (·.1) = false := by rfl) : PI X (.Tuple elts kk tpos) (.Call (.Name "zip" p) [a, b] [] pos) (tIOf X.K (mZip ma mb)) := by
  refine PI.imp (RZ.pi_zipA hg hm (pa_cons ha (pa_cons hb pa_nil he2) he) he hpl) ?_
  rintro σ H Q ⟨G, e, d, e', rel, hm, k⟩
  obtain ⟨⟨d1, e1⟩, h1, hm⟩ := Option.bind_eq_some_iff.mp hm
  obtain ⟨⟨d2, e2⟩, h2, hm⟩ := Option.bind_eq_some_iff.mp hm
  obtain ⟨z, h3, hm⟩ := Option.map_eq_some_iff.mp hm
  obtain ⟨rfl, rfl⟩ := Prod.mk.inj hm
  refine ⟨G, e, _, _, rel, h1, fun v H1 s1 r1 dp => ⟨G, e1, _, _, r1, h2, fun v2 H2 s2 r2 dp2 => ?_⟩⟩
  have dp1 := dp_mono s2.vis dp
  simp only at h3
  unfold zipOf at h3
  split at h3
  · cases h3
    obtain ⟨l, xs, rfl, q1, t1⟩ := dp_list dp1
    obtain ⟨l2, ys, rfl, q2, t2⟩ := dp_list dp2
    exact ⟨l, l2, xs, ys, rfl, .inl ⟨same_cut.seq q1, same_cut.seq q2, k _ H2 (s1.trans s2) r2 (walk_zip q1 t1 q2 t2)⟩⟩
  · cases h3
    obtain ⟨l, xs, rfl, q1, t1⟩ := dp_tup dp1
    obtain ⟨l2, ys, rfl, q2, t2⟩ := dp_tup dp2
    exact ⟨l, l2, xs, ys, rfl, .inr ⟨same_tup same_cut q1, same_tup same_cut q2, k _ H2 (s1.trans s2) r2 (walk_zipT q1 t1 q2 t2)⟩⟩
  · cases h3
def mEnum (a : ME) : ML := fun e => (a e).bind fun r => match r.1 with
  | .list ds => some (enumFrom 0 ds, r.2)
  | _ => none
theorem ji_enum {elts : List Expr} {kk : Nat} {tpos : Pos} (hg : Gl X "enumerate") (hm : X.mg "enumerate" = none) (ha : PE X a (tOf X.K ma)) (he : starEach [a] X.env = (false, eval a X.env) :: starEach [] X.env := by rfl) (hs : starEach [a] X.env = [(false, eval a X.env)] := by rfl) :
    PI X (.Tuple elts kk tpos) (.Call (.Name "enumerate" p) [a] [] pos) (tIOf X.K (mEnum ma)) := by
  refine PI.imp (pi_enum hg hm (pa_cons ha pa_nil he) hs) ?_
  rintro σ H Q ⟨G, e, d, e', rel, hm, k⟩
  obtain ⟨⟨d1, e1⟩, h1, hm⟩ := Option.bind_eq_some_iff.mp hm
  simp only at hm
  split at hm
  · cases hm
    refine ⟨G, e, _, _, rel, h1, fun v H1 s1 r1 dp => ?_⟩
    obtain ⟨l, xs, rfl, q1, t1⟩ := dp_list dp
    exact ⟨l, xs, rfl, same_cut.seq q1, k _ H1 s1 r1 (walk_enum q1 t1)⟩
  · cases hm
end

/-! ### targets -/
abbrev MG := D → Sg → Option Sg
def tGOf (K : Frag) (js : List Nat) (b : MG) : TG := fun x σ H R => ∃ G e d e', Rel K G σ H e ∧ Dp K (vis G σ e H) x d ∧ b d e = some e' ∧
  ∀ σ', (∀ i : Nat, i ∉ js → σ'[i]? = σ[i]?) → σ'.length = σ.length → Step σ e H σ' e' H → Rel K G σ' H e' → R σ' H
def isPar (o : Option (Option Sl)) : Bool := match o with
  | some (some (.own true _)) => true
  | _ => false
def bName (i : Nat) : MG := fun d e => if (decide (i < e.length) && !isPar e[i]?) = true then some (e.set i (some (.val d))) else none
section
variable {K : Frag} {G : Addr → Prop} {σ : SS} {H : Hp} {e : Sg} {X : Cx}
/-- a slot takes data -/
theorem put_val {i : Nat} {d : D} {v : V} (r : Rel K G σ H e) (hi : i < e.length) (hp : isPar e[i]? = false) (hv : Dp K (vis G σ e H) v d) :
    Step σ e H (σ.set i (some v)) (e.set i (some (.val d))) H ∧ Rel K G (σ.set i (some v)) H (e.set i (some (.val d))) := by
  have own' : ∀ a, Own (σ.set i (some v)) (e.set i (some (.val d))) a → ∃ j, j ≠ i ∧ ∃ b ds, e[j]? = some (some (.own b ds)) ∧ σ[j]? = some (some (.ref a)) := by
    intro a w
    obtain ⟨j, b, ds, h1, h2⟩ := w
    rw [List.getElem?_set] at h1 h2
    split at h1
    · cases h1
    · rename_i hne
      rw [if_neg hne] at h2
      exact ⟨j, fun q => hne q.symm, b, ds, h1, h2⟩
  have st : Step σ e H (σ.set i (some v)) (e.set i (some (.val d))) H := by
    refine ⟨fun _ _ h _ => h, fun a w => ?_, fun _ h => h, fun j ds hj => ?_⟩
    · obtain ⟨j, _, b, ds, q1, q2⟩ := own' a w
      exact .inl ⟨j, b, ds, q1, q2⟩
    · have hne : i ≠ j := fun q => by
        subst q
        rw [hj] at hp
        cases hp
      rw [List.getElem?_set, List.getElem?_set, if_neg hne, if_neg hne]
      exact ⟨rfl, ds, hj⟩
  refine ⟨st, ⟨by rw [List.length_set, List.length_set]; exact r.len, fun j d' hj => ?_, fun j b ds hj => ?_, fun j k b c d1 d2 q hj hk s1 s2 => ?_, r.frn⟩⟩
  · rw [List.getElem?_set] at hj ⊢
    split at hj
    · rename_i q
      subst q
      cases hj
      rw [if_pos rfl, if_pos (by rw [r.len]; exact hi)]
      exact ⟨v, rfl, dp_mono st.vis hv⟩
    · rename_i hne
      rw [if_neg hne]
      obtain ⟨v', q1, q2⟩ := r.val j d' hj
      exact ⟨v', q1, dp_mono st.vis q2⟩
  · rw [List.getElem?_set] at hj ⊢
    split at hj
    · cases hj
    · rename_i hne
      rw [if_neg hne]
      obtain ⟨p', xs', q1, q2, q3, q4⟩ := r.own j b ds hj
      exact ⟨p', xs', q1, q2, dpa_mono st.vis q3, q4⟩
  · rw [List.getElem?_set] at hj hk s1 s2
    split at hj
    · cases hj
    · rename_i n1
      split at hk
      · cases hk
      · rename_i n2
        rw [if_neg n1] at s1
        rw [if_neg n2] at s2
        exact r.sep j k b c d1 d2 q hj hk s1 s2
theorem jg_name {i : Nat} {x : Str} {pos : Pos} (hN : X.N.Nodup) (hi : X.N[i]? = some x) (hx : Loc X.env.scope x) (hf : X.fn x = true ∨ X.env.scope.names.lookup x = some .local := by first | exact .inl rfl | exact .inr rfl | assumption) : PG X (.Name x pos) (tGOf X.K [i] (bName i)) := by
  refine PG.imp (pg_name hN hi hx hf) ?_
  rintro v σ H R ⟨G, e, d, e', rel, dp, hm, k⟩
  unfold bName at hm
  split at hm
  · rename_i hc
    cases hm
    simp only [Bool.and_eq_true, decide_eq_true_eq, Bool.not_eq_true'] at hc
    obtain ⟨st, r2⟩ := put_val rel hc.1 hc.2 dp
    refine k _ (fun j hj => ?_) (by rw [List.length_set]) st r2
    rw [List.getElem?_set, if_neg (fun q => hj (by rw [← q]; exact List.mem_singleton.mpr rfl))]
  · cases hm
abbrev MGs := List D → Sg → Option Sg
def tGsOf (K : Frag) (js : List Nat) (b : MGs) : TGs := fun xs σ H R => ∃ G e ds e', Rel K G σ H e ∧ DpAll K (vis G σ e H) xs ds ∧ b ds e = some e' ∧
  ∀ σ', (∀ i : Nat, i ∉ js → σ'[i]? = σ[i]?) → σ'.length = σ.length → Step σ e H σ' e' H → Rel K G σ' H e' → R σ' H
theorem PGs.imp {es : List Expr} {t t' : TGs} (h : PGs X es t) (i : ∀ v σ H Q, t' v σ H Q → t v σ H Q) : PGs X es t' := ⟨fun pins s σ H vs us Q I r w => h.run pins s σ H vs us Q I r (i vs σ H Q w)⟩
def bNil : MGs := fun ds e => match ds with
  | [] => some e
  | _ => none
def bCons (b : MG) (bs : MGs) : MGs := fun ds e => match ds with
  | d :: r => (b d e).bind fun e1 => bs r e1
  | [] => none
theorem jgs_nil : PGs X [] (tGsOf X.K [] bNil) := PGs.imp pgs_nil (by
  rintro v σ H R ⟨G, e, d, e', rel, dp, hm, k⟩
  unfold bNil at hm
  split at hm
  · cases hm
    cases dp
    exact ⟨rfl, k _ (fun _ _ => rfl) rfl .refl rel⟩
  · cases hm)
theorem jgs_cons {a : Expr} {es : List Expr} {js ks : List Nat} {b : MG} {bs : MGs} (h1 : PG X a (tGOf X.K js b)) (h2 : PGs X es (tGsOf X.K ks bs)) (hs : (assignEach (a :: es) X.env).map (·.2) = assign a X.env :: (assignEach es X.env).map (·.2) := by rfl) :
    PGs X (a :: es) (tGsOf X.K (js ++ ks) (bCons b bs)) := by
  refine PGs.imp (pgs_cons h1 h2 hs) ?_
  rintro v σ H R ⟨G, e, d, e', rel, dp, hm, k⟩
  unfold bCons at hm
  split at hm
  · obtain ⟨e1, q1, hm⟩ := Option.bind_eq_some_iff.mp hm
    cases dp with
    | cons hd tl =>
      refine ⟨_, _, rfl, G, e, _, e1, rel, hd, q1, fun σ1 k1 l1 s1 r1 => ⟨G, e1, _, e', r1, dpa_mono s1.vis tl, hm, fun σ2 k2 l2 s2 r2 => ?_⟩⟩
      refine k σ2 (fun i hi => ?_) (l2.trans l1) (s1.trans s2) r2
      rw [List.mem_append] at hi
      exact (k2 i fun w => hi (.inr w)).trans (k1 i fun w => hi (.inl w))
  · cases hm
def bTup (n : Nat) (bs : MGs) : MG := fun d e => match d with
  | .tuple ds => if ds.length = n then bs ds e else none
  | _ => none
theorem jg_tup {es : List Expr} {kk : Nat} {pos : Pos} {js : List Nat} {bs : MGs} {n : Nat} (hc : X.calm = true) (h : PGs X es (tGsOf X.K js bs)) (hn : (assignEach es X.env).length = n := by rfl) (hst : (assignEach es X.env).findIdx? (·.1) = none := by rfl) :
    PG X (.Tuple es kk pos) (tGOf X.K js (bTup n bs)) := by
  refine PG.imp (pg_tup hc h hn hst) ?_
  rintro v σ H R ⟨G, e, d, e', rel, dp, hm, k⟩
  unfold bTup at hm
  split at hm
  · split at hm
    · rename_i hl
      obtain ⟨a, xs, rfl, q1, t1⟩ := dp_tup dp
      exact ⟨a, xs, rfl, same_tup same_cut q1, by rw [dpa_len t1]; exact hl, G, e, _, e', rel, t1, hm, k⟩
    · cases hm
  · cases hm
end
end PB

set_option maxHeartbeats 4000000
namespace PB
open PySem PySem.Spec PyProof.Rows L2

/-! ### the slots of a comprehension's own names -/
def wipeE (e : Sg) : List Nat → Sg
  | [] => e
  | v :: vs => (wipeE e vs).set v none
def isOwn (o : Option (Option Sl)) : Bool := match o with
  | some (some (.own _ _)) => true
  | _ => false
def noOwn (e : Sg) (vs : List Nat) : Bool := vs.all fun i => !isOwn e[i]?
def wipeC (e : Sg) (vs : List Nat) : Option Sg := if noOwn e vs = true then some (wipeE e vs) else none
def restore (e f : Sg) : List Nat → Sg
  | [] => f
  | v :: vs => (restore e f vs).set v (e[v]?.getD none)
theorem wipeE_len (e : Sg) : ∀ vs, (wipeE e vs).length = e.length
  | [] => rfl
  | v :: vs => by
    show ((wipeE e vs).set v none).length = _
    rw [List.length_set, wipeE_len e vs]
theorem restore_len (e f : Sg) : ∀ vs, (restore e f vs).length = f.length
  | [] => rfl
  | v :: vs => by
    show ((restore e f vs).set v _).length = _
    rw [List.length_set, restore_len e f vs]
theorem wipeE_out (e : Sg) {i : Nat} : ∀ {vs}, i ∉ vs → (wipeE e vs)[i]? = e[i]?
  | [], _ => rfl
  | v :: vs, h => by
    show ((wipeE e vs).set v none)[i]? = _
    rw [List.getElem?_set, if_neg (fun q => h (by rw [q]; exact List.mem_cons_self)), wipeE_out e fun w => h (List.mem_cons_of_mem _ w)]
theorem wipeE_in (e : Sg) {i : Nat} {s : Sl} : ∀ {vs}, (wipeE e vs)[i]? = some (some s) → i ∉ vs ∧ e[i]? = some (some s)
  | [], h => ⟨by simp, h⟩
  | v :: vs, h => by
    have h' : ((wipeE e vs).set v none)[i]? = some (some s) := h
    rw [List.getElem?_set] at h'
    split at h'
    · split at h' <;> cases h'
    · rename_i hne
      obtain ⟨q1, q2⟩ := wipeE_in e h'
      exact ⟨fun w => (List.mem_cons.mp w).elim (fun z => hne z.symm) q1, q2⟩
theorem restore_out (e f : Sg) {i : Nat} : ∀ {vs}, i ∉ vs → (restore e f vs)[i]? = f[i]?
  | [], _ => rfl
  | v :: vs, h => by
    show ((restore e f vs).set v _)[i]? = _
    rw [List.getElem?_set, if_neg (fun q => h (by rw [q]; exact List.mem_cons_self)), restore_out e f fun w => h (List.mem_cons_of_mem _ w)]
theorem restore_in (e f : Sg) (hl : e.length = f.length) {i : Nat} : ∀ {vs}, i ∈ vs → (restore e f vs)[i]? = e[i]?
  | [], h => by simp at h
  | v :: vs, h => by
    show ((restore e f vs).set v _)[i]? = _
    rw [List.getElem?_set]
    split
    · rename_i q
      subst q
      split
      · rename_i hv
        rw [restore_len, ← hl] at hv
        rw [List.getElem?_eq_getElem hv]
        rfl
      · rename_i hv
        rw [restore_len, ← hl] at hv
        rw [List.getElem?_eq_none (by omega)]
    · rename_i hne
      rcases List.mem_cons.mp h with q | q
      · exact absurd q.symm hne
      · exact restore_in e f hl q
theorem noOwn_at {e : Sg} {vs : List Nat} {i : Nat} (h : noOwn e vs = true) (hi : i ∈ vs) : isOwn e[i]? = false := by
  have := List.all_eq_true.mp h i hi
  simpa using this
theorem wipe_ext {σ σ' : SS} {vs : List Nat} (hl : σ'.length = σ.length) (h : ∀ i : Nat, i ∉ vs → σ'[i]? = σ[i]?) : wipe σ' vs = wipe σ vs := by
  apply List.ext_getElem?
  intro i
  by_cases hi : i ∈ vs
  · have key : ∀ (τ : SS) (ws : List Nat), i ∈ ws → (wipe τ ws)[i]? = if i < τ.length then some none else none := by
      intro τ ws
      induction ws with
      | nil => intro h; simp at h
      | cons w ws ih =>
        intro hw
        show ((wipe τ ws).set w none)[i]? = _
        rw [List.getElem?_set, wipe_length]
        by_cases e : w = i
        · rw [if_pos e, e]
        · rw [if_neg e]
          rcases List.mem_cons.mp hw with q | q
          · exact absurd q.symm e
          · exact ih q
    rw [key σ' vs hi, key σ vs hi, hl]
  · rw [wipe_out hi, wipe_out hi]
    exact h i hi

section
variable {K : Frag} {G : Addr → Prop} {σ σ2 : SS} {H : Hp} {e : Sg} {vs : List Nat}
theorem own_wiped {a : Addr} (w : Own (wipe σ vs) (wipeE e vs) a) : Own σ e a := by
  obtain ⟨i, b, ds, h1, h2⟩ := w
  obtain ⟨q1, q2⟩ := wipeE_in e h1
  rw [wipe_out q1] at h2
  exact ⟨i, b, ds, q2, h2⟩
theorem own_wipe {a : Addr} (hn : noOwn e vs = true) (w : Own σ e a) : Own (wipe σ vs) (wipeE e vs) a := by
  obtain ⟨i, b, ds, h1, h2⟩ := w
  have hi : i ∉ vs := fun q => by
    have := noOwn_at hn q
    rw [h1] at this
    cases this
  exact ⟨i, b, ds, by rw [wipeE_out e hi]; exact h1, by rw [wipe_out hi]; exact h2⟩
theorem Step.wiped (hn : noOwn e vs = true) : Step σ e H (wipe σ vs) (wipeE e vs) H := by
  refine ⟨fun _ _ h _ => h, fun a w => .inl (own_wiped w), fun _ h => h, fun i ds hi => ?_⟩
  have hi' : i ∉ vs := fun q => by
    have := noOwn_at hn q
    rw [hi] at this
    cases this
  rw [wipe_out hi', wipeE_out e hi']
  exact ⟨rfl, ds, hi⟩
theorem Rel.wiped (hn : noOwn e vs = true) (r : Rel K G σ H e) : Rel K G (wipe σ vs) H (wipeE e vs) where
  len := by rw [wipe_length, wipeE_len]; exact r.len
  val := fun i d h => by
    obtain ⟨q1, q2⟩ := wipeE_in e h
    obtain ⟨v, h1, h2⟩ := r.val i d q2
    exact ⟨v, by rw [wipe_out q1]; exact h1, dp_mono (Step.wiped hn).vis h2⟩
  own := fun i b ds h => by
    obtain ⟨q1, q2⟩ := wipeE_in e h
    obtain ⟨p, xs, h1, h2, h3, h4⟩ := r.own i b ds q2
    exact ⟨p, xs, by rw [wipe_out q1]; exact h1, h2, dpa_mono (Step.wiped hn).vis h3, h4⟩
  sep := fun i j b c ds es p h1 h2 h3 h4 => by
    obtain ⟨q1, q2⟩ := wipeE_in e h1
    obtain ⟨q3, q4⟩ := wipeE_in e h2
    rw [wipe_out q1] at h3
    rw [wipe_out q3] at h4
    exact r.sep i j b c ds es p q2 q4 h3 h4
  frn := r.frn
/-- a foreign object changes -/
theorem Rel.other {Dl : Addr} {o : HO} (r : Rel K G σ H e) (hG : G Dl) : Rel K G σ (upd H Dl o) e := by
  have sm : Same (vis G σ e H) (vis G σ e (upd H Dl o)) := fun a u h => by
    obtain ⟨h1, h2⟩ := cut_iff.mp h
    have hne : a ≠ Dl := fun q => h1 (.inl (by rw [q]; exact hG))
    exact cut_of h1 (by rw [upd_ne hne]; exact h2)
  refine ⟨r.len, fun i d h => ?_, fun i b ds h => ?_, r.sep, fun a h => ?_⟩
  · obtain ⟨v, h1, h2⟩ := r.val i d h
    exact ⟨v, h1, dp_mono sm h2⟩
  · obtain ⟨p, xs, h1, h2, h3, h4⟩ := r.own i b ds h
    have hne : p ≠ Dl := fun q => h4 (by rw [q]; exact hG)
    exact ⟨p, xs, h1, by rw [upd_ne hne]; exact h2, dpa_mono sm h3, h4⟩
  · by_cases hne : a = Dl
    · rw [hne, upd_same]
      exact fun z => nomatch z
    · rw [upd_ne hne]
      exact r.frn a h
theorem vis_other {Dl : Addr} {o : HO} (hG : G Dl) : Same (vis G σ e H) (vis G σ e (upd H Dl o)) := fun a u h => by
  obtain ⟨h1, h2⟩ := cut_iff.mp h
  have hne : a ≠ Dl := fun q => h1 (.inl (by rw [q]; exact hG))
  exact cut_of h1 (by rw [upd_ne hne]; exact h2)
theorem Step.other {σ' : SS} {e' : Sg} {H' : Hp} {Dl : Addr} {o : HO} (s : Step σ e H σ' e' H') (hD : H Dl = none) : Step σ e H σ' e' (upd H' Dl o) where
  keep := fun a u h n => by
    rw [upd_ne (ne_of_none h hD)]
    exact s.keep a u h n
  new := s.new
  there := fun a h => by
    by_cases hne : a = Dl
    · rw [hne]
      exact hD
    · rw [upd_ne hne] at h
      exact s.there a h
  par := s.par
end

/-! ### comprehensions -/
def lcGo (bind : MG) (test : MT) (elt : ME) (vs : List Nat) : List D → Sg → Option (List D × Sg)
  | [], e => some ([], e)
  | d :: ds, e => (bind d e).bind fun e1 => (test e1).bind fun t => if t.1 = true then (elt t.2).bind fun y => (wipeC y.2 vs).bind fun e2 => (lcGo bind test elt vs ds e2).map fun r => (y.1 :: r.1, r.2)
    else (wipeC t.2 vs).bind fun e2 => lcGo bind test elt vs ds e2
def mLc (mi : ML) (bind : MG) (test : MT) (elt : ME) (vs : List Nat) : ML := fun e => (mi e).bind fun it => if szOk it.1.length = true then (wipeC it.2 vs).bind fun e0 => (lcGo bind test elt vs it.1 e0).map fun r => (r.1, restore it.2 r.2 vs) else none
def mYes : MT := fun e => some (true, e)
theorem lcGo_len {bind : MG} {test : MT} {elt : ME} {vs : List Nat} : ∀ {ds : List D} {e : Sg} {r : List D × Sg}, lcGo bind test elt vs ds e = some r → r.1.length ≤ ds.length
  | [], e, r, h => by
    cases h
    exact Nat.le_refl _
  | d :: ds, e, r, h => by
    unfold lcGo at h
    obtain ⟨e1, _, h⟩ := Option.bind_eq_some_iff.mp h
    obtain ⟨t, _, h⟩ := Option.bind_eq_some_iff.mp h
    split at h
    · obtain ⟨y, _, h⟩ := Option.bind_eq_some_iff.mp h
      obtain ⟨e2, _, h⟩ := Option.bind_eq_some_iff.mp h
      obtain ⟨r', h1, h⟩ := Option.map_eq_some_iff.mp h
      subst h
      have := lcGo_len h1
      simp only [List.length_cons]
      omega
    · obtain ⟨e2, _, h⟩ := Option.bind_eq_some_iff.mp h
      have := lcGo_len h
      simp only [List.length_cons]
      omega
section
variable {K : Frag} {X : Cx}
theorem wipeC_some {e f : Sg} {vs : List Nat} (h : wipeC e vs = some f) : noOwn e vs = true ∧ f = wipeE e vs := by
  unfold wipeC at h
  split at h
  · rename_i hn
    cases h
    exact ⟨hn, rfl⟩
  · cases h
/-- from the block's state back to the def's -/
theorem back {G : Addr → Prop} {σ : SS} {H1 H : Hp} {e1 ei : Sg} {vs : List Nat} {Dl : Addr} (hn : noOwn e1 vs = true) (r1 : Rel K G σ H1 e1) (hD : H1 Dl = none) (ri : Rel K (fun a => G a ∨ a = Dl) (wipe σ vs) H ei) (hei : ∀ i ∈ vs, ∀ s, ei[i]? ≠ some (some s))
    (st : Step (wipe σ vs) (wipeE e1 vs) H1 (wipe σ vs) ei H) :
    Step σ e1 H1 σ (restore e1 ei vs) H ∧ Rel K (fun a => G a ∨ a = Dl) σ H (restore e1 ei vs) ∧ (∀ a, Own σ (restore e1 ei vs) a ↔ Own (wipe σ vs) ei a) := by
  have hl : e1.length = ei.length := by rw [← r1.len, ← ri.len, wipe_length]
  have own1 : ∀ a, Own σ (restore e1 ei vs) a ↔ Own (wipe σ vs) ei a := by
    intro a
    constructor
    · rintro ⟨i, b, ds, h1, h2⟩
      by_cases hi : i ∈ vs
      · rw [restore_in e1 ei hl hi] at h1
        have := noOwn_at hn hi
        rw [h1] at this
        cases this
      · rw [restore_out e1 ei hi] at h1
        exact ⟨i, b, ds, h1, by rw [wipe_out hi]; exact h2⟩
    · rintro ⟨i, b, ds, h1, h2⟩
      have hi : i ∉ vs := fun q => hei i q _ h1
      rw [wipe_out hi] at h2
      exact ⟨i, b, ds, by rw [restore_out e1 ei hi]; exact h1, h2⟩
  have st' : Step σ e1 H1 σ (restore e1 ei vs) H := by
    refine ⟨fun a o h n => st.keep a o h fun w => n (own_wiped w), fun a w => ?_, st.there, fun i ds hi => ⟨rfl, ?_⟩⟩
    · rcases st.new a ((own1 a).mp w) with q | q
      · exact .inl (own_wiped q)
      · exact .inr q
    · have hi' : i ∉ vs := fun q => by
        have := noOwn_at hn q
        rw [hi] at this
        cases this
      obtain ⟨_, ds', h2⟩ := st.par i ds (by rw [wipeE_out e1 hi']; exact hi)
      exact ⟨ds', by rw [restore_out e1 ei hi']; exact h2⟩
  have sm : Same (vis (fun a => G a ∨ a = Dl) (wipe σ vs) ei H) (vis (fun a => G a ∨ a = Dl) σ (restore e1 ei vs) H) := fun a u h => by
    obtain ⟨h1, h2⟩ := cut_iff.mp h
    refine cut_of ?_ h2
    rintro (w | w)
    · exact h1 (.inl w)
    · exact h1 (.inr ((own1 a).mp w))
  have sm1 : Same (vis G σ e1 H1) (vis (fun a => G a ∨ a = Dl) σ (restore e1 ei vs) H) := fun a u h => by
    have h0 := (cut_iff.mp h).2
    obtain ⟨h1, h2⟩ := cut_iff.mp (st'.vis (G := G) a u h)
    refine cut_of ?_ h2
    rintro ((w | w) | w)
    · exact h1 (.inl w)
    · exact ne_of_none h0 hD w
    · exact h1 (.inr w)
  refine ⟨st', ⟨by rw [restore_len, r1.len, hl], fun i d h => ?_, fun i b ds h => ?_, fun i j b c ds es p h1 h2 h3 h4 => ?_, ri.frn⟩, own1⟩
  · by_cases hi : i ∈ vs
    · rw [restore_in e1 ei hl hi] at h
      obtain ⟨v, q1, q2⟩ := r1.val i d h
      exact ⟨v, q1, dp_mono sm1 q2⟩
    · rw [restore_out e1 ei hi] at h
      obtain ⟨v, q1, q2⟩ := ri.val i d h
      rw [wipe_out hi] at q1
      exact ⟨v, q1, dp_mono sm q2⟩
  · by_cases hi : i ∈ vs
    · rw [restore_in e1 ei hl hi] at h
      have := noOwn_at hn hi
      rw [h] at this
      cases this
    · rw [restore_out e1 ei hi] at h
      obtain ⟨p, xs, q1, q2, q3, q4⟩ := ri.own i b ds h
      rw [wipe_out hi] at q1
      exact ⟨p, xs, q1, q2, dpa_mono sm q3, q4⟩
  · have out : ∀ {i b ds}, (restore e1 ei vs)[i]? = some (some (Sl.own b ds)) → i ∉ vs ∧ ei[i]? = some (some (Sl.own b ds)) := by
      intro i b ds h
      by_cases hi : i ∈ vs
      · rw [restore_in e1 ei hl hi] at h
        have := noOwn_at hn hi
        rw [h] at this
        cases this
      · rw [restore_out e1 ei hi] at h
        exact ⟨hi, h⟩
    obtain ⟨o1, g1⟩ := out h1
    obtain ⟨o2, g2⟩ := out h2
    exact ri.sep i j b c ds es p g1 g2 (by rw [wipe_out o1]; exact h3) (by rw [wipe_out o2]; exact h4)
theorem wiped_none {e : Sg} {vs : List Nat} : ∀ i ∈ vs, ∀ s, (wipeE e vs)[i]? ≠ some (some s) := fun i hi s h => (wipeE_in e h).1 hi
theorem lc_of {mi : ML} {bind : MG} {test : MT} {elt : ME} {vs js : List Nat} (hjs : ∀ j ∈ js, j ∈ vs) :
    ∀ σ H Q, tNOf K (mLc mi bind test elt vs) σ H Q → tLc (tIOf K mi) (tGOf K js bind) (tTOf K test) (tOf K elt) vs σ H Q := by
  rintro σ H Q ⟨G, e, ds, e', rel, hm, k⟩
  obtain ⟨⟨items, e1⟩, h1, hm⟩ := Option.bind_eq_some_iff.mp hm
  simp only at hm
  split at hm
  · rename_i hz
    obtain ⟨e0, h0, hm⟩ := Option.bind_eq_some_iff.mp hm
    obtain ⟨⟨out, eF⟩, hgo, hm⟩ := Option.map_eq_some_iff.mp hm
    obtain ⟨rfl, rfl⟩ := Prod.mk.inj hm
    obtain ⟨hn, rfl⟩ := wipeC_some h0
    refine ⟨G, e, items, e1, rel, h1, fun J H1 s1 r1 wk Dl hD => ?_⟩
    -- the invariant
    refine ⟨fun i m H' => m = items.length - i ∧ i ≤ items.length ∧ ∃ (ei : Sg) (acc : List V) (da rest : List D), Rel K (fun a => G a ∨ a = Dl) (wipe σ vs) H' ei ∧ (∀ i ∈ vs, ∀ s, ei[i]? ≠ some (some s)) ∧
        Step (wipe σ vs) (wipeE e1 vs) H1 (wipe σ vs) ei H' ∧ H' Dl = some (.lst acc) ∧ DpAll K (vis (fun a => G a ∨ a = Dl) (wipe σ vs) ei H') acc da ∧ da.length ≤ i ∧ lcGo bind test elt vs (items.drop i) ei = some (rest, eF) ∧ da ++ rest = out,
      ⟨items.length, by simp, Nat.zero_le _, wipeE e1 vs, [], [], out, (r1.wiped hn).foreign hD, wiped_none, Step.refl.other hD, upd_same, .nil, Nat.le_refl _, by simpa using hgo, rfl⟩, ?_⟩
    rintro i m H2 ⟨rfl, hi, ei, acc, da, rest, ri, hei, st, hDl, dacc, hlen, hgo', hout⟩
    have hw : (wipe σ vs) = wipe σ vs := rfl
    obtain ⟨b1, b2, b3⟩ := back hn r1 hD ri hei st
    -- what was seen ahead is seen in the block
    have seen : Same (vis G σ e1 H1) (vis (fun a => G a ∨ a = Dl) (wipe σ vs) ei H2) := fun a o h => by
      obtain ⟨q1, q2⟩ := cut_iff.mp h
      have hne : a ≠ Dl := ne_of_none q2 hD
      refine cut_of ?_ (st.keep a o q2 fun w => q1 (.inr (own_wiped w)))
      rintro ((w | w) | w)
      · exact q1 (.inl w)
      · exact hne w
      · rcases st.new a w with z | z
        · exact q1 (.inr (own_wiped z))
        · rw [q2] at z; cases z
    by_cases hlt : i < items.length
    · refine .inr ⟨wk.go i H2 (seen.trans same_cut) hlt, ?_⟩
      have hdrop : items.drop i = items[i] :: items.drop (i + 1) := List.drop_eq_getElem_cons hlt
      rw [hdrop] at hgo'
      unfold lcGo at hgo'
      obtain ⟨e2, hb, hgo'⟩ := Option.bind_eq_some_iff.mp hgo'
      obtain ⟨⟨t, e3⟩, ht, hgo'⟩ := Option.bind_eq_some_iff.mp hgo'
      refine ⟨fun H' => ∃ m', m' < items.length - i ∧ (m' = items.length - (i + 1) ∧ i + 1 ≤ items.length ∧ ∃ (ei : Sg) (acc : List V) (da rest : List D), Rel K (fun a => G a ∨ a = Dl) (wipe σ vs) H' ei ∧ (∀ i ∈ vs, ∀ s, ei[i]? ≠ some (some s)) ∧
        Step (wipe σ vs) (wipeE e1 vs) H1 (wipe σ vs) ei H' ∧ H' Dl = some (.lst acc) ∧ DpAll K (vis (fun a => G a ∨ a = Dl) (wipe σ vs) ei H') acc da ∧ da.length ≤ i + 1 ∧ lcGo bind test elt vs (items.drop (i + 1)) ei = some (rest, eF) ∧ da ++ rest = out), fun H' h => h, fun x H3 hy => ?_⟩
      have hF : ∀ a, ((G a ∨ a = Dl) ∨ Own (wipe σ vs) ei a) → H2 a ≠ none := ri.ne0
      obtain ⟨sm3, dx⟩ := wk.yld i H2 (fun a => (G a ∨ a = Dl) ∨ Own (wipe σ vs) ei a) x H3 items[i] seen hF (List.getElem?_eq_getElem hlt) hy
      refine ⟨fun a => G a ∨ a = Dl, ei, items[i], e2, ri.grow sm3, dx, hb, fun σ2 k2 l2 s2 r2 => ⟨?_, fun a => G a ∨ a = Dl, e2, t, e3, r2, ht, fun H4 s4 r4 => ?_⟩⟩
      · have hh : wipe σ2 vs = wipe (wipe σ vs) vs := wipe_ext l2 fun j hj => k2 j fun w => hj (hjs j w)
        rw [hh]
        refine wipe_ext (wipe_length σ vs) fun j hj => wipe_out hj
      · have hws : wipe σ2 vs = wipe σ vs := by
          have hh : wipe σ2 vs = wipe (wipe σ vs) vs := wipe_ext l2 fun j hj => k2 j fun w => hj (hjs j w)
          rw [hh]
          exact wipe_ext (wipe_length σ vs) fun j hj => wipe_out hj
        have g2 : Step (wipe σ vs) ei H2 σ2 e2 H3 := (Step.grow (e := ei) sm3).trans s2
        have g4 : Step (wipe σ vs) ei H2 σ2 e3 H4 := g2.trans s4
        have D4 : H4 Dl = some (.lst acc) := g4.keep Dl _ hDl fun w => by
          obtain ⟨j, b, ds', q1, q2⟩ := w
          obtain ⟨p, xs, q3, q4, q5, q6⟩ := ri.own j b ds' q1
          rw [q2] at q3
          cases q3
          exact q6 (.inr rfl)
        cases t with
        | true =>
          rw [if_pos rfl] at hgo'
          obtain ⟨⟨y, e4⟩, he, hgo'⟩ := Option.bind_eq_some_iff.mp hgo'
          obtain ⟨e5, hw5, hgo'⟩ := Option.bind_eq_some_iff.mp hgo'
          obtain ⟨⟨rest', eF'⟩, hrest, hgo'⟩ := Option.map_eq_some_iff.mp hgo'
          obtain ⟨rfl, rfl⟩ := Prod.mk.inj hgo'
          obtain ⟨hn5, rfl⟩ := wipeC_some hw5
          refine iteT ⟨fun a => G a ∨ a = Dl, e3, y, e4, r4, he, fun v H5 s5 r5 dy => ?_⟩
          have g5 : Step (wipe σ vs) ei H2 σ2 e4 H5 := g4.trans s5
          have g6 : Step (wipe σ vs) ei H2 (wipe σ2 vs) (wipeE e4 vs) H5 := g5.trans (Step.wiped hn5)
          rw [hws] at g6
          have r6 : Rel K (fun a => G a ∨ a = Dl) (wipe σ vs) H5 (wipeE e4 vs) := by
            have := r5.wiped hn5
            rw [hws] at this
            exact this
          have D5 : H5 Dl = some (.lst acc) := s5.keep Dl _ D4 fun w => by
            obtain ⟨j, b, ds', q1, q2⟩ := w
            obtain ⟨p, xs, q3, q4, q5, q6⟩ := r4.own j b ds' q1
            rw [q2] at q3
            cases q3
            exact q6 (.inr rfl)
          refine ⟨acc, D5, ?_, items.length - (i + 1), by omega, rfl, by omega, wipeE e4 vs, acc ++ [v], da ++ [y], rest', r6.other (.inr rfl), wiped_none, (st.trans g6).other hD, upd_same, dpa_mono (vis_other (.inr rfl)) (dpa_app (dpa_mono g6.vis dacc) (.cons ?_ .nil)), ?_, hrest, ?_⟩
          · rw [dpa_len dacc]
            have hz' : items.length ≤ 100000 := of_decide_eq_true hz
            rw [sizeLine_eq]
            omega
          · have := dp_mono (Step.wiped (H := H5) (σ := σ2) hn5).vis dy
            rw [hws] at this
            exact this
          · rw [List.length_append, List.length_singleton]
            omega
          · rw [List.append_assoc]
            exact hout
        | false =>
          rw [if_neg Bool.false_ne_true] at hgo'
          obtain ⟨e5, hw5, hgo'⟩ := Option.bind_eq_some_iff.mp hgo'
          obtain ⟨hn5, rfl⟩ := wipeC_some hw5
          have g6 : Step (wipe σ vs) ei H2 (wipe σ2 vs) (wipeE e3 vs) H4 := g4.trans (Step.wiped hn5)
          rw [hws] at g6
          have r6 : Rel K (fun a => G a ∨ a = Dl) (wipe σ vs) H4 (wipeE e3 vs) := by
            have := r4.wiped hn5
            rw [hws] at this
            exact this
          exact iteF ⟨items.length - (i + 1), by omega, rfl, by omega, wipeE e3 vs, acc, da, rest, r6, wiped_none, st.trans g6, D4, dpa_mono g6.vis dacc, by omega, hgo', hout⟩
    · have hi2 : i = items.length := by omega
      refine .inl ⟨wk.stop i H2 (seen.trans same_cut) (by omega), ?_⟩
      rw [hi2, List.drop_length] at hgo'
      cases hgo'
      rw [List.append_nil] at hout
      subst hout
      refine k Dl acc H2 (s1.trans b1) b2 (s1.there Dl hD) hDl (dpa_mono ?_ dacc)
      intro a o h
      obtain ⟨q1, q2⟩ := cut_iff.mp h
      refine cut_of ?_ q2
      rintro (w | w)
      · exact q1 (.inl w)
      · exact q1 (.inr ((b3 a).mp w))
  · cases hm
theorem jts_nil : PTs X [] (tTOf X.K mYes) := ⟨fun pins s σ H Q I h => pts_nil.run pins s σ H Q I (by
  obtain ⟨G, e, d, e', rel, hm, k⟩ := h
  cases hm
  exact k H .refl rel)⟩
theorem jts_one {c : Expr} {t : MT} (h : PT X c (tTOf X.K t)) : PTs X [c] (tTOf X.K t) := pts_one h
theorem jn_lc {elt tg iter : Expr} {ifs : List Expr} {scope : Scope} {own : List (Str × Nat)} {pos : Pos} {mi : ML} {bind : MG} {test : MT} {me : ME} {js : List Nat} (hc : X.calm = true) (hN : X.N.Nodup) (hi : PI X tg iter (tIOf X.K mi)) (ok : BlkOk X.N X.env.scope scope own)
    (hg : ∀ (s : Shared) (H : Hp) (C : Addr) (cl : List (Str × Addr)) (fp : List Addr), PG (X.blk s H scope (compEnvC scope cl C X.env) fp) tg (tGOf X.K js bind)) (ht : ∀ (s : Shared) (H : Hp) (C : Addr) (cl : List (Str × Addr)) (fp : List Addr), PTs (X.blk s H scope (compEnvC scope cl C X.env) fp) ifs (tTOf X.K test))
    (he : ∀ (s : Shared) (H : Hp) (C : Addr) (cl : List (Str × Addr)) (fp : List Addr), PE (X.blk s H scope (compEnvC scope cl C X.env) fp) elt (tOf X.K me)) (hjs : ∀ j ∈ js, j ∈ own.map (·.2) := by decide) (hs : ∀ x, foldedSetIterable iter X.env x = pure x := by intro _; rfl) :
    PE X (.ListComp elt [⟨tg, iter, ifs, 0⟩] scope pos) (tNOf X.K (mLc mi bind test me (own.map (·.2)))) := PE.imp (pe_lc hc hN hi ok hg ht he hs) (lc_of hjs)
end
end PB

set_option maxHeartbeats 4000000
namespace PB
open PySem PySem.Spec PyProof.Rows L2

/-! ### statements -/
def sSkip : MS := fun e => some (.next, e)
def sSeq (a b : MS) : MS := fun e => (a e).bind fun r => match r.1 with
  | .next => b r.2
  | o => some (o, r.2)
def sRet (a : ME) : MS := fun e => (a e).map fun r => (.ret (.val r.1), r.2)
def sRetNew (a : ML) : MS := fun e => (a e).map fun r => (.ret (.new r.1), r.2)
def sIf (t : MT) (a b : MS) : MS := fun e => (t e).bind fun r => if r.1 = true then a r.2 else b r.2
def sAsg (a : ME) (b : MG) : MS := fun e => (a e).bind fun r => (b r.1 r.2).map fun e' => (.next, e')
def sAsgOwn (i : Nat) (a : ML) : MS := fun e => (a e).bind fun r => if (decide (i < r.2.length) && !isPar r.2[i]?) = true then some (.next, r.2.set i (some (.own false r.1))) else none
def sDrop (a : ME) : MS := fun e => (a e).map fun r => (.next, r.2)
def sCont : MS := fun e => some (.cont, e)
def sBrk : MS := fun e => some (.brk, e)
section
variable {K : Frag} {X : Cx} {G : Addr → Prop} {σ : SS} {H : Hp} {e : Sg} {st : Stmt} {rest : List Stmt} {ma mb : MS} {a : Expr} {me : ME} {ml : ML} {pos : Pos}
theorem RtRel.back {F : Addr → Prop} {H0 H H' : Hp} {v : V} {r : Rt} (h : ∀ a, H a = none → H0 a = none) (q : RtRel K F H H' v r) : RtRel K F H0 H' v r := by
  cases r with
  | val d => exact q
  | new ds =>
    obtain ⟨p, xs, h1, h2, h3⟩ := q
    exact ⟨p, xs, h1, h p h2, h3⟩
theorem outs_back {σ1 : SS} {H1 : Hp} {e1 e' : Sg} {D : Ends} {o : Out} (s : Step σ e H σ1 e1 H1) (h : outs K G σ e H D o e') : outs K G σ1 e1 H1 D o e' := by
  cases o with
  | next => exact fun σ' H' st r => h σ' H' (s.trans st) r
  | brk => exact fun σ' H' st r => h σ' H' (s.trans st) r
  | cont => exact fun σ' H' st r => h σ' H' (s.trans st) r
  | ret r => exact fun v σ' H' st rr q => h v σ' H' (s.trans st) rr (q.back s.there)
theorem jss_nil : PSs X [] (tSOf X.K sSkip) := PSs.imp pss_nil (by
  rintro D σ H ⟨G, e, o, e', rel, hm, k⟩
  cases hm
  exact k σ H .refl rel)
theorem seq_of : ∀ D σ H, tSOf K (sSeq ma mb) D σ H → tSeq (tSOf K ma) (tSOf K mb) D σ H := by
  rintro D σ H ⟨G, e, o, e', rel, hm, k⟩
  obtain ⟨⟨o1, e1⟩, h1, hm⟩ := Option.bind_eq_some_iff.mp hm
  refine ⟨G, e, o1, e1, rel, h1, ?_⟩
  cases o1 with
  | next => exact fun σ' H' st r => ⟨G, e1, o, e', r, hm, outs_back st k⟩
  | brk =>
    cases hm
    exact k
  | cont =>
    cases hm
    exact k
  | ret r =>
    cases hm
    exact k
theorem jss_cons (h1 : PS X st (tSOf X.K ma)) (h2 : PSs X rest (tSOf X.K mb)) : PSs X (st :: rest) (tSOf X.K (sSeq ma mb)) := PSs.imp (pss_cons h1 h2) seq_of
theorem jss_one (h1 : PS X st (tSOf X.K ma)) : PSs X [st] (tSOf X.K ma) := pss_one h1
theorem js_pass : PS X (.Pass pos) (tSOf X.K sSkip) := PS.imp ps_pass (by
  rintro D σ H ⟨G, e, o, e', rel, hm, k⟩
  cases hm
  exact k σ H .refl rel)
theorem js_cont : PS X (.Continue pos) (tSOf X.K sCont) := PS.imp ps_continue (by
  rintro D σ H ⟨G, e, o, e', rel, hm, k⟩
  cases hm
  exact k σ H .refl rel)
theorem js_brk : PS X (.Break pos) (tSOf X.K sBrk) := PS.imp ps_break (by
  rintro D σ H ⟨G, e, o, e', rel, hm, k⟩
  cases hm
  exact k σ H .refl rel)
theorem js_ret (ha : PE X a (tOf X.K me)) : PS X (.Return (some a) pos) (tSOf X.K (sRet me)) := PS.imp (ps_ret ha) (by
  rintro D σ H ⟨G, e, o, e', rel, hm, k⟩
  obtain ⟨⟨d1, e1⟩, h1, hm⟩ := Option.map_eq_some_iff.mp hm
  obtain ⟨rfl, rfl⟩ := Prod.mk.inj hm
  exact ⟨G, e, d1, _, rel, h1, fun v H1 s1 r1 dp => k v σ H1 s1 r1 dp⟩)
theorem js_retNew (ha : PE X a (tNOf X.K ml)) : PS X (.Return (some a) pos) (tSOf X.K (sRetNew ml)) := PS.imp (ps_ret ha) (by
  rintro D σ H ⟨G, e, o, e', rel, hm, k⟩
  obtain ⟨⟨d1, e1⟩, h1, hm⟩ := Option.map_eq_some_iff.mp hm
  obtain ⟨rfl, rfl⟩ := Prod.mk.inj hm
  refine ⟨G, e, d1, _, rel, h1, fun p xs H1 s1 r1 hp hx dp => k _ σ H1 s1 r1.tame ⟨p, xs, rfl, hp, hx, dpa_mono ?_ dp⟩⟩
  intro a o h
  obtain ⟨q1, q2⟩ := cut_iff.mp h
  refine cut_of ?_ q2
  rintro ((w | w) | w)
  · exact q1 (.inl (.inl w))
  · exact q1 (.inr w)
  · exact q1 (.inl (.inr w)))
theorem js_if {c : Expr} {as bs : List Stmt} {t : MT} (hc : PT X c (tTOf X.K t)) (ha : PSs X as (tSOf X.K ma)) (hb : PSs X bs (tSOf X.K mb)) : PS X (.If c as bs pos) (tSOf X.K (sIf t ma mb)) := PS.imp (ps_if hc ha hb) (by
  rintro D σ H ⟨G, e, o, e', rel, hm, k⟩
  obtain ⟨⟨d1, e1⟩, h1, hm⟩ := Option.bind_eq_some_iff.mp hm
  refine ⟨G, e, d1, e1, rel, h1, fun H1 s1 r1 => ?_⟩
  cases d1 with
  | true => exact iteT ⟨G, e1, o, e', r1, hm, outs_back s1 k⟩
  | false => exact iteF ⟨G, e1, o, e', r1, hm, outs_back s1 k⟩)
theorem asg_of {b : MG} {js : List Nat} : ∀ D σ H, tSOf K (sAsg me b) D σ H → tAsg (tOf K me) (tGOf K js b) D σ H := by
  rintro D σ H ⟨G, e, o, e', rel, hm, k⟩
  obtain ⟨⟨d1, e1⟩, h1, hm⟩ := Option.bind_eq_some_iff.mp hm
  obtain ⟨e2, h2, hm⟩ := Option.map_eq_some_iff.mp hm
  obtain ⟨rfl, rfl⟩ := Prod.mk.inj hm
  exact ⟨G, e, d1, e1, rel, h1, fun v H1 s1 r1 dp => ⟨G, e1, d1, _, r1, dp, h2, fun σ' _ _ s2 r2 => k σ' H1 (s1.trans s2) r2⟩⟩
/-- name = e, target = e -/
theorem js_set {i : Nat} {x : Str} {pos' : Pos} (hN : X.N.Nodup) (hi : X.N[i]? = some x) (hx : Loc X.env.scope x) (ha : PE X a (tOf X.K me)) (hs : swapsWith a (some (.Name x pos')) pos.line X.env = pure false := by rfl) (hf : X.fn x = true ∨ X.env.scope.names.lookup x = some .local := by first | exact .inl rfl | exact .inr rfl | assumption) :
    PS X (.Assign [.Name x pos'] a pos) (tSOf X.K (sAsg me (bName i))) := by
  refine PS.imp (ps_set hN hi hx ha hs hf) fun D σ H h => ?_
  obtain ⟨G, e, o, e', rel, hm, k⟩ := h
  obtain ⟨⟨d1, e1⟩, h1, hm⟩ := Option.bind_eq_some_iff.mp hm
  obtain ⟨e2, h2, hm⟩ := Option.map_eq_some_iff.mp hm
  obtain ⟨rfl, rfl⟩ := Prod.mk.inj hm
  refine ⟨G, e, d1, e1, rel, h1, fun v H1 s1 r1 dp => ?_⟩
  unfold bName at h2
  split at h2
  · rename_i hc
    cases h2
    simp only [Bool.and_eq_true, decide_eq_true_eq, Bool.not_eq_true'] at hc
    obtain ⟨st, r2⟩ := put_val r1 hc.1 hc.2 dp
    exact k _ H1 (s1.trans st) r2
  · cases h2
theorem js_asg {tg : Expr} {b : MG} {js : List Nat} (ha : PE X a (tOf X.K me)) (hg : PG X tg (tGOf X.K js b)) (hs : swapsWithSole [tg] a pos.line X.env = pure false := by rfl) (hw : swappedStores [tg] a X.env = pure none := by rfl)
    (h1 : (assignEach [tg] X.env).map (·.2) = [assign tg X.env] := by rfl) : PS X (.Assign [tg] a pos) (tSOf X.K (sAsg me b)) := PS.imp (ps_asg ha hg hs hw h1) asg_of
/-- a slot takes a new list -/
theorem put_own {i : Nat} {ds : List D} {p : Addr} {xs : List V} {H1 : Hp} {e1 : Sg} (r : Rel K (fun a => G a ∨ a = p) σ H1 e1) (hi : i < e1.length) (hG : ¬ G p) (hx : H1 p = some (.lst xs)) (hd : DpAll K (vis (fun a => G a ∨ a = p) σ e1 H1) xs ds) :
    Rel K G (σ.set i (some (.ref p))) H1 (e1.set i (some (.own false ds))) ∧ ∀ a, Own (σ.set i (some (.ref p))) (e1.set i (some (.own false ds))) a → Own σ e1 a ∨ a = p := by
  have hn := r.notOwn
  have own' : ∀ a, Own (σ.set i (some (.ref p))) (e1.set i (some (.own false ds))) a → Own σ e1 a ∨ a = p := by
    rintro a ⟨j, b, ds', h1, h2⟩
    rw [List.getElem?_set] at h1 h2
    split at h1
    · rename_i q
      rw [if_pos q, if_pos (by rw [r.len]; exact hi)] at h2
      cases h2
      exact .inr rfl
    · rename_i hne
      rw [if_neg hne] at h2
      exact .inl ⟨j, b, ds', h1, h2⟩
  have sm : Same (vis (fun a => G a ∨ a = p) σ e1 H1) (vis G (σ.set i (some (.ref p))) (e1.set i (some (.own false ds))) H1) := fun a u h => by
    obtain ⟨h1, h2⟩ := cut_iff.mp h
    refine cut_of ?_ h2
    rintro (w | w)
    · exact h1 (.inl (.inl w))
    · rcases own' a w with q | q
      · exact h1 (.inr q)
      · exact h1 (.inl (.inr q))
  refine ⟨⟨by rw [List.length_set, List.length_set]; exact r.len, fun j d hj => ?_, fun j b ds' hj => ?_, fun j k b c d1 d2 q hj hk s1 s2 => ?_, fun a h => r.frn a (.inl h)⟩, own'⟩
  · rw [List.getElem?_set] at hj ⊢
    split at hj
    · cases hj
    · rename_i hne
      rw [if_neg hne]
      obtain ⟨v, q1, q2⟩ := r.val j d hj
      exact ⟨v, q1, dp_mono sm q2⟩
  · rw [List.getElem?_set] at hj ⊢
    split at hj
    · rename_i q
      cases hj
      rw [if_pos q, if_pos (by rw [r.len]; exact hi)]
      exact ⟨p, xs, rfl, hx, dpa_mono sm hd, hG⟩
    · rename_i hne
      rw [if_neg hne]
      obtain ⟨p', xs', q1, q2, q3, q4⟩ := r.own j b ds' hj
      exact ⟨p', xs', q1, q2, dpa_mono sm q3, fun w => q4 (.inl w)⟩
  · rw [List.getElem?_set] at hj hk s1 s2
    split at hj
    · rename_i n1
      rw [if_pos n1, if_pos (by rw [r.len]; exact hi)] at s1
      cases s1
      split at hk
      · rename_i n2
        rw [← n1, ← n2]
      · rename_i n2
        rw [if_neg n2] at s2
        exact absurd ⟨k, c, d2, hk, s2⟩ hn
    · rename_i n1
      rw [if_neg n1] at s1
      split at hk
      · rename_i n2
        rw [if_pos n2, if_pos (by rw [r.len]; exact hi)] at s2
        cases s2
        exact absurd ⟨j, b, d1, hj, s1⟩ hn
      · rename_i n2
        rw [if_neg n2] at s2
        exact r.sep j k b c d1 d2 q hj hk s1 s2
/-- name = a new list, that is the name's own from then on -/
theorem js_setOwn {i : Nat} {x : Str} {pos' : Pos} (hN : X.N.Nodup) (hi : X.N[i]? = some x) (hx : Loc X.env.scope x) (ha : PE X a (tNOf X.K ml)) (hs : swapsWith a (some (.Name x pos')) pos.line X.env = pure false := by rfl) (hf : X.fn x = true ∨ X.env.scope.names.lookup x = some .local := by first | exact .inl rfl | exact .inr rfl | assumption) :
    PS X (.Assign [.Name x pos'] a pos) (tSOf X.K (sAsgOwn i ml)) := by
  refine PS.imp (ps_set hN hi hx ha hs hf) fun D σ H h => ?_
  obtain ⟨G, e, o, e', rel, hm, k⟩ := h
  obtain ⟨⟨d1, e1⟩, h1, hm⟩ := Option.bind_eq_some_iff.mp hm
  simp only at hm
  split at hm
  · rename_i hc
    simp only [Bool.and_eq_true, decide_eq_true_eq, Bool.not_eq_true'] at hc
    cases hm
    refine ⟨G, e, _, _, rel, h1, fun p xs H1 s1 r1 hp hx dp => ?_⟩
    obtain ⟨r2, own'⟩ := put_own r1 hc.1 (fun g => rel.frn p g hp) hx dp
    refine k _ H1 ⟨s1.keep, fun b w => ?_, s1.there, fun j ds hj => ?_⟩ r2
    · rcases own' b w with q | q
      · exact s1.new b q
      · rw [q]
        exact .inr hp
    · obtain ⟨_, ds', q2⟩ := s1.par j ds hj
      have hne : i ≠ j := fun q => by
        rw [q, q2] at hc
        cases hc.2
      rw [List.getElem?_set, List.getElem?_set, if_neg hne, if_neg hne]
      exact ⟨rfl, ds', q2⟩
  · cases hm

/-! ### a list of one's own changes -/
theorem own_write {i : Nat} {b : Bool} {ds ds2 : List D} {p : Addr} {ys : List V} (r : Rel K G σ H e) (h : e[i]? = some (some (.own b ds))) (hp : σ[i]? = some (some (.ref p))) (hd : DpAll K (vis G σ e H) ys ds2) :
    Step σ e H σ (e.set i (some (.own b ds2))) (upd H p (.lst ys)) ∧ Rel K G σ (upd H p (.lst ys)) (e.set i (some (.own b ds2))) := by
  have hi : i < e.length := (List.getElem?_eq_some_iff.mp h).1
  obtain ⟨p', xs, q1, q2, q3, q4⟩ := r.own i b ds h
  rw [hp] at q1
  cases q1
  have own' : ∀ a, Own σ (e.set i (some (.own b ds2))) a ↔ Own σ e a := by
    intro a
    constructor
    · rintro ⟨j, c, ds', h1, h2⟩
      rw [List.getElem?_set] at h1
      split at h1
      · rename_i n1
        exact ⟨i, b, ds, h, by rw [n1]; exact h2⟩
      · exact ⟨j, c, ds', h1, h2⟩
    · rintro ⟨j, c, ds', h1, h2⟩
      by_cases hj : i = j
      · exact ⟨j, b, ds2, by rw [List.getElem?_set, if_pos hj, if_pos hi], h2⟩
      · exact ⟨j, c, ds', by rw [List.getElem?_set, if_neg hj]; exact h1, h2⟩
  have sm : Same (vis G σ e H) (vis G σ (e.set i (some (.own b ds2))) (upd H p (.lst ys))) := fun a u h' => by
    obtain ⟨h1, h2⟩ := cut_iff.mp h'
    have hne : a ≠ p := fun q => h1 (.inr ⟨i, b, ds, h, by rw [q]; exact hp⟩)
    refine cut_of ?_ (by rw [upd_ne hne]; exact h2)
    rintro (w | w)
    · exact h1 (.inl w)
    · exact h1 (.inr ((own' a).mp w))
  refine ⟨⟨fun a o h1 n => ?_, fun a w => .inl ((own' a).mp w), fun a h1 => ?_, fun j ds' hj => ⟨rfl, ?_⟩⟩, ⟨by rw [List.length_set]; exact r.len, fun j d hj => ?_, fun j c ds' hj => ?_, fun j k c c' d1 d2 q hj hk s1 s2 => ?_, fun a h1 => ?_⟩⟩
  · have hne : a ≠ p := fun q => n ⟨i, b, ds, h, by rw [q]; exact hp⟩
    rw [upd_ne hne]
    exact h1
  · by_cases hne : a = p
    · rw [hne, upd_same] at h1
      cases h1
    · rw [upd_ne hne] at h1
      exact h1
  · by_cases hji : i = j
    · rw [List.getElem?_set, if_pos hji, if_pos hi]
      rw [← hji, h] at hj
      cases hj
      exact ⟨ds2, rfl⟩
    · exact ⟨ds', by rw [List.getElem?_set, if_neg hji]; exact hj⟩
  · rw [List.getElem?_set] at hj
    split at hj
    · cases hj
    · obtain ⟨v, s1, s2⟩ := r.val j d hj
      exact ⟨v, s1, dp_mono sm s2⟩
  · rw [List.getElem?_set] at hj
    split at hj
    · rename_i n1
      cases hj
      exact ⟨p, ys, by rw [← n1]; exact hp, upd_same, dpa_mono sm hd, q4⟩
    · rename_i n1
      obtain ⟨p', xs', s1, s2, s3, s4⟩ := r.own j c ds' hj
      have hne : p' ≠ p := fun q => n1 (r.sep i j b c ds ds' p h hj hp (by rw [← q]; exact s1))
      exact ⟨p', xs', s1, by rw [upd_ne hne]; exact s2, dpa_mono sm s3, s4⟩
  · have look : ∀ {j : Nat} {c : Bool} {d1 : List D}, (e.set i (some (.own b ds2)))[j]? = some (some (.own c d1)) → ∃ c' d', e[j]? = some (some (.own c' d')) := by
      intro j c d1 hj
      rw [List.getElem?_set] at hj
      split at hj
      · rename_i n1
        exact ⟨b, ds, by rw [← n1]; exact h⟩
      · exact ⟨c, d1, hj⟩
    obtain ⟨c1, f1, g1⟩ := look hj
    obtain ⟨c2, f2, g2⟩ := look hk
    exact r.sep j k c1 c2 f1 f2 q g1 g2 s1 s2
  · by_cases hne : a = p
    · rw [hne, upd_same]
      exact fun z => nomatch z
    · rw [upd_ne hne]
      exact r.frn a h1
/-- x.append(e), x a list of one's own -/
def mAppend (i : Nat) (me : ME) : ME := fun e => match e[i]? with
  | some (some (.own _ _)) => (me e).bind fun r => match r.2[i]? with
    | some (some (.own b ds)) => if szOk ds.length = true then some (.none, r.2.set i (some (.own b (ds ++ [r.1])))) else none
    | _ => none
  | _ => none
theorem je_append (i : Nat) {x : Str} {p p2 : Pos} (ha : PE X a (tOf X.K me)) (hN : X.N[i]? = some x := by rfl) (hv : Vis X.env.scope x := by first | exact Or.inl rfl | exact Or.inr (Or.inl rfl) | exact Or.inr (Or.inr rfl))
    (hd : (x == ("__debug__" : Str)) = false := by decide) (hcd : (x == ("__classdict__" : Str)) = false := by decide) (hbase : attributeBase (.Name x p2) "append" X.env (eval (.Name x p2) X.env) = eval (.Name x p2) X.env := by rfl)
    (hfew : ((backTo pos (starEach [a] X.env)).all (fun x => !x.1) && (backToKw pos (keywordEach [] X.env)).all (fun x => x.1.isSome) && decide ([a].length + ([] : List Keyword).length + (if ([] : List Keyword).isEmpty then 0 else 1) < 30)) = true := by rfl)
    (hline : (p.endLine == pos.line) = true := by rfl) (hs : starEach [a] X.env = (false, eval a X.env) :: starEach [] X.env := by rfl) (hplain : (backTo pos (starEach [] X.env)).any (·.1) = false := by rfl) :
    PE X (.Call (.Attribute (.Name x p2) "append" p) [a] [] pos) (tOf X.K (mAppend i me)) := by
  refine PE.imp (pe_bm PySem.F.plainAttrs_list PySem.F.slot_list_append PySem.F.type_list_append mt_append (pe_var hN hv hd hcd) (pa_cons ha pa_nil hs) hbase hfew hline hs hplain) ?_
  rintro σ H Q ⟨G, e, d, e', rel, hm, k⟩
  unfold mAppend at hm
  split at hm
  · rename_i b0 ds0 h0
    obtain ⟨⟨d1, e1⟩, h1, hm⟩ := Option.bind_eq_some_iff.mp hm
    simp only at hm
    split at hm
    · rename_i b ds hj
      split at hm
      · rename_i hz
        cases hm
        obtain ⟨q, xs0, s1, hx0, _⟩ := rel.own i _ _ h0
        refine ⟨.ref q, s1, .inl ⟨rfl, _, .of hx0⟩, G, e, _, e1, rel, h1, fun v H1 st r1 dp => ?_⟩
        obtain ⟨q', xs, s2, hx, hd2, _⟩ := r1.own i _ _ hj
        rw [s1] at s2
        cases s2
        obtain ⟨st2, r2⟩ := own_write r1 hj s1 (dpa_app hd2 (.cons dp .nil))
        exact ⟨q, xs, v, rfl, rfl, hx, by rw [dpa_len hd2]; exact szOk_lt hz, k _ _ (st.trans st2) r2 .non⟩
      · cases hm
    · cases hm
  · cases hm
end
end PB

set_option maxHeartbeats 4000000
namespace PB
open PySem PySem.Spec PyProof.Rows L2

section
variable {K : Frag} {X : Cx} {a b : Expr} {me mi : ME} {ml : ML} {pos : Pos}
/-- x[i] = e, x a list of one's own -/
def sSetOwn (i : Nat) (mi me : ME) : MS := fun e => (me e).bind fun r => match r.2[i]? with
  | some (some (.own _ _)) => (mi r.2).bind fun q => match q.1, q.2[i]? with
    | .int k, some (some (.own c ds)) => (ixN ds.length k).map fun j => (.next, q.2.set i (some (.own c (ds.set j r.1))))
    | _, _ => none
  | _ => none
theorem js_setIx (i : Nat) {x : Str} {p p2 : Pos} (ha : PE X a (tOf X.K me)) (hb : PE X b (tOf X.K mi)) (hN : X.N[i]? = some x := by rfl) (hv : Vis X.env.scope x := by first | exact Or.inl rfl | exact Or.inr (Or.inl rfl) | exact Or.inr (Or.inr rfl))
    (hd : (x == ("__debug__" : Str)) = false := by decide) (hcd : (x == ("__classdict__" : Str)) = false := by decide)
    (hasg : ∀ v, assign (.Subscript (.Name x p) b p2) X.env v = (do
      let ov ← holding [v] (eval (.Name x p) X.env)
      let iv ← holding [v, ov] (eval b X.env)
      standAt p2
      holding [v, ov, iv] (setItem ov iv v)
      release [v, ov, iv] []) := by intro _; rfl)
    (hs : swapsWithSole [.Subscript (.Name x p) b p2] a pos.line X.env = pure false := by rfl) (hw : swappedStores [.Subscript (.Name x p) b p2] a X.env = pure none := by rfl) (h1 : (assignEach [.Subscript (.Name x p) b p2] X.env).map (·.2) = [assign (.Subscript (.Name x p) b p2) X.env] := by rfl) :
    PS X (.Assign [.Subscript (.Name x p) b p2] a pos) (tSOf X.K (sSetOwn i mi me)) := by
  refine PS.imp (ps_asg ha (pg_sub (pe_var hN hv hd hcd) hb set_list hasg) hs hw h1) ?_
  rintro D σ H ⟨G, e, o, e', rel, hm, k⟩
  obtain ⟨⟨d1, e1⟩, h1, hm⟩ := Option.bind_eq_some_iff.mp hm
  simp only at hm
  split at hm
  · rename_i b0 ds0 h0
    obtain ⟨⟨d2, e2⟩, h2, hm⟩ := Option.bind_eq_some_iff.mp hm
    simp only at hm
    split at hm
    · rename_i kk c ds hj
      obtain ⟨j, hk, hm⟩ := Option.map_eq_some_iff.mp hm
      obtain ⟨rfl, rfl⟩ := Prod.mk.inj hm
      refine ⟨G, e, d1, e1, rel, h1, fun v H1 s1 r1 dp => ?_⟩
      obtain ⟨q, xs0, t1, _⟩ := r1.own i _ _ h0
      refine ⟨.ref q, t1, G, e1, _, e2, r1, h2, fun v2 H2 s2 r2 dp2 => ?_⟩
      cases dp2
      obtain ⟨q', xs, t2, hx, hd2, _⟩ := r2.own i _ _ hj
      rw [t1] at t2
      cases t2
      obtain ⟨st2, r3⟩ := own_write r2 hj t1 (dpa_set (dp_mono s2.vis dp) j hd2)
      exact ⟨q, xs, kk, j, rfl, rfl, hx, by rw [dpa_len hd2]; exact hk, k _ _ ((s1.trans s2).trans st2) r3⟩
    · cases hm
  · cases hm
theorem js_expr (ha : PE X a (tOf X.K me)) (hs : swapsWith a none pos.line X.env = pure false := by rfl) : PS X (.Expr a pos) (tSOf X.K (sDrop me)) := PS.imp (ps_expr ha hs) (by
  rintro D σ H ⟨G, e, o, e', rel, hm, k⟩
  obtain ⟨⟨d1, e1⟩, h1, hm⟩ := Option.map_eq_some_iff.mp hm
  obtain ⟨rfl, rfl⟩ := Prod.mk.inj hm
  exact ⟨G, e, d1, _, rel, h1, fun v H1 s1 r1 dp => k σ H1 s1 r1⟩)

/-! ### for -/
def forGo (bind : MG) (body : MS) : List D → Sg → Option (Out × Sg)
  | [], e => some (.next, e)
  | d :: ds, e => (bind d e).bind fun e1 => (body e1).bind fun r => match r.1 with
    | .next => forGo bind body ds r.2
    | .cont => forGo bind body ds r.2
    | .brk => some (.next, r.2)
    | .ret v => some (.ret v, r.2)
def sFor (mi : ML) (bind : MG) (body : MS) : MS := fun e => (mi e).bind fun it => forGo bind body it.1 it.2
theorem for_of {mi : ML} {bind : MG} {body : MS} {js : List Nat} : ∀ D σ H, tSOf K (sFor mi bind body) D σ H → tFor (tIOf K mi) (tGOf K js bind) (tSOf K body) D σ H := by
  rintro D σ H ⟨G, e, o, e', rel, hm, k⟩
  obtain ⟨⟨items, e1⟩, h1, hgo⟩ := Option.bind_eq_some_iff.mp hm
  refine ⟨G, e, items, e1, rel, h1, fun J H1 s1 r1 wk => ?_⟩
  have k1 : outs K G σ e1 H1 D o e' := outs_back s1 k
  refine ⟨fun i m σ' H' => m = items.length - i ∧ i ≤ items.length ∧ ∃ ei, Rel K G σ' H' ei ∧ Step σ e1 H1 σ' ei H' ∧ forGo bind body (items.drop i) ei = some (o, e'), ⟨items.length, by simp, Nat.zero_le _, e1, r1, .refl, by simpa using hgo⟩, ?_⟩
  rintro i m σ' H' ⟨rfl, hi, ei, ri, st, hgo'⟩
  have seen : Same (vis G σ e1 H1) (vis G σ' ei H') := st.vis
  by_cases hlt : i < items.length
  · refine .inr ⟨wk.go i H' (seen.trans same_cut) hlt, ?_⟩
    have hdrop : items.drop i = items[i] :: items.drop (i + 1) := List.drop_eq_getElem_cons hlt
    rw [hdrop] at hgo'
    unfold forGo at hgo'
    obtain ⟨e2, hb, hgo'⟩ := Option.bind_eq_some_iff.mp hgo'
    obtain ⟨⟨o3, e3⟩, ht, hgo'⟩ := Option.bind_eq_some_iff.mp hgo'
    refine ⟨fun σ2 H2 => ∃ m', m' < items.length - i ∧ (m' = items.length - (i + 1) ∧ i + 1 ≤ items.length ∧ ∃ ei, Rel K G σ2 H2 ei ∧ Step σ e1 H1 σ2 ei H2 ∧ forGo bind body (items.drop (i + 1)) ei = some (o, e')), fun σ2 H2 h => h, fun x H3 hy => ?_⟩
    obtain ⟨sm3, dx⟩ := wk.yld i H' (fun a => G a ∨ Own σ' ei a) x H3 items[i] seen ri.ne0 (List.getElem?_eq_getElem hlt) hy
    refine ⟨G, ei, items[i], e2, ri.grow sm3, dx, hb, fun σ2 k2 l2 s2 r2 => ⟨G, e2, o3, e3, r2, ht, ?_⟩⟩
    have g2 : Step σ e1 H1 σ2 e2 H3 := (st.trans (Step.grow (e := ei) sm3)).trans s2
    cases o3 with
    | next => exact fun σ4 H4 s4 r4 => ⟨items.length - (i + 1), by omega, rfl, by omega, e3, r4, g2.trans s4, hgo'⟩
    | cont => exact fun σ4 H4 s4 r4 => ⟨items.length - (i + 1), by omega, rfl, by omega, e3, r4, g2.trans s4, hgo'⟩
    | brk =>
      cases hgo'
      exact fun σ4 H4 s4 r4 => k1 σ4 H4 (g2.trans s4) r4
    | ret v =>
      cases hgo'
      exact fun v σ4 H4 s4 r4 q => k1 v σ4 H4 (g2.trans s4) r4 (q.back g2.there)
  · have hi2 : i = items.length := by omega
    refine .inl ⟨wk.stop i H' (seen.trans same_cut) (by omega), ?_⟩
    rw [hi2, List.drop_length] at hgo'
    cases hgo'
    exact k1 σ' H' st ri
theorem js_for {tg iter : Expr} {body : List Stmt} {bind : MG} {mb : MS} {js : List Nat} (hp : PassesOwn (model X.prog X.w) X.A X.env X.xe) (hc : X.calm = true) (hi : PI X tg iter (tIOf X.K ml)) (hg : PG X tg (tGOf X.K js bind)) (hb : PSs X body (tSOf X.K mb))
    (hs : ∀ x, foldedSetIterable iter X.env x = pure x := by intro _; rfl) : PS X (.For tg iter body [] pos) (tSOf X.K (sFor ml bind mb)) := PS.imp (ps_for hp hc hi hg hb hs) for_of

/-! ### while, by so many turns at most -/
def whileGo (t : MT) (body : MS) : Nat → Sg → Option (Out × Sg)
  | 0, _ => none
  | n + 1, e => (t e).bind fun c => if c.1 = true then (body c.2).bind fun r => (match r.1 with
    | .next => whileGo t body n r.2
    | .cont => whileGo t body n r.2
    | .brk => some (.next, r.2)
    | .ret v => some (.ret v, r.2)) else some (.next, c.2)
theorem while_of {t : MT} {body : MS} {n : Nat} : ∀ D σ H, tSOf K (whileGo t body n) D σ H → tWhile (tTOf K t) (tSOf K body) D σ H := by
  rintro D σ H ⟨G, e, o, e', rel, hgo, k⟩
  refine ⟨fun m σ' H' => ∃ ei, Rel K G σ' H' ei ∧ Step σ e H σ' ei H' ∧ whileGo t body m ei = some (o, e'), ⟨n, e, rel, .refl, hgo⟩, ?_⟩
  rintro m σ' H' ⟨ei, ri, st, hgo'⟩
  cases m with
  | zero => cases hgo'
  | succ m =>
    unfold whileGo at hgo'
    obtain ⟨⟨c, e2⟩, hc, hgo'⟩ := Option.bind_eq_some_iff.mp hgo'
    refine ⟨G, ei, c, e2, ri, hc, fun H2 s2 r2 => ?_⟩
    have g2 := st.trans s2
    cases c with
    | true =>
      rw [if_pos rfl] at hgo'
      obtain ⟨⟨o3, e3⟩, hb, hgo'⟩ := Option.bind_eq_some_iff.mp hgo'
      refine iteT ⟨fun σ3 H3 => ∃ m', m' < m + 1 ∧ ∃ ei, Rel K G σ3 H3 ei ∧ Step σ e H σ3 ei H3 ∧ whileGo t body m' ei = some (o, e'), fun _ _ h => h, G, e2, o3, e3, r2, hb, ?_⟩
      cases o3 with
      | next => exact fun σ4 H4 s4 r4 => ⟨m, by omega, e3, r4, g2.trans s4, hgo'⟩
      | cont => exact fun σ4 H4 s4 r4 => ⟨m, by omega, e3, r4, g2.trans s4, hgo'⟩
      | brk =>
        cases hgo'
        exact fun σ4 H4 s4 r4 => k σ4 H4 (g2.trans s4) r4
      | ret v =>
        cases hgo'
        exact fun v σ4 H4 s4 r4 q => k v σ4 H4 (g2.trans s4) r4 (q.back g2.there)
    | false =>
      rw [if_neg Bool.false_ne_true] at hgo'
      cases hgo'
      exact iteF (k σ' H2 g2 r2)
theorem js_while {c : Expr} {body : List Stmt} {t : MT} {mb : MS} (n : Nat) (hp : PassesOwn (model X.prog X.w) X.A X.env X.xe) (hc : PT X c (tTOf X.K t)) (hb : PSs X body (tSOf X.K mb)) : PS X (.While c body [] pos) (tSOf X.K (whileGo t mb n)) := PS.imp (ps_while hp hc hb) while_of
end

/-! ### defs -/
abbrev Fp := List D → Option Rt
abbrev Fk := List D → List D → Option (Rt × List D)
def spP (K : Frag) (n : Nat) (f : Fp) : Sp := fun vs H Q _ => ∃ (G : Addr → Prop) (ds : List D) (r : Rt), (∀ a, G a → H a ≠ none) ∧ DpAll K (cut H G) vs ds ∧ ds.length = n ∧ f ds = some r ∧ ∀ v H', Same H H' → RtRel K G H H' v r → Q v H'
/-- the first argument is a list that may be changed -/
def spK (K : Frag) (n : Nat) (f : Fk) : Sp := fun vs H Q _ => ∃ (G : Addr → Prop) (p : Addr) (xs : List V) (vs' : List V) (ds0 ds ds1 : List D) (r : Rt), vs = .ref p :: vs' ∧ H p = some (.lst xs) ∧ ¬ G p ∧ (∀ a, G a → H a ≠ none) ∧
  DpAll K (cut H (fun a => G a ∨ a = p)) xs ds0 ∧ DpAll K (cut H (fun a => G a ∨ a = p)) vs' ds ∧ ds.length + 1 = n ∧ f ds0 ds = some (r, ds1) ∧
  ∀ v H' xs', (∀ a o, H a = some o → a ≠ p → H' a = some o) → H' p = some (.lst xs') → DpAll K (cut H' (fun a => G a ∨ a = p)) xs' ds1 → RtRel K (fun a => G a ∨ a = p) H H' v r → Q v H'
def startE (n : Nat) (ds : List D) : Sg := ds.map (fun d => some (.val d)) ++ List.replicate (n - ds.length) none
def runP (n : Nat) (M : MS) : Fp := fun ds => match M (startE n ds) with
  | some (.ret r, _) => some r
  | some (.next, _) => some (.val .none)
  | _ => none
def startK (n : Nat) (ds0 ds : List D) : Sg := some (.own true ds0) :: (ds.map (fun d => some (.val d)) ++ List.replicate (n - 1 - ds.length) none)
def runK (n : Nat) (M : MS) : Fk := fun ds0 ds => match M (startK n ds0 ds) with
  | some (.ret r, e) => match (e[0]? : Option (Option Sl)) with
    | some (some (.own true ds1)) => some (r, ds1)
    | _ => none
  | some (.next, e) => match (e[0]? : Option (Option Sl)) with
    | some (some (.own true ds1)) => some (.val .none, ds1)
    | _ => none
  | _ => none
theorem startE_get {n : Nat} {ds : List D} {i : Nat} {s : Sl} (h : (startE n ds)[i]? = some (some s)) : ∃ d, ds[i]? = some d ∧ s = .val d := by
  unfold startE at h
  rw [List.getElem?_append] at h
  split at h
  · rename_i hi
    rw [List.length_map] at hi
    rw [List.getElem?_map, List.getElem?_eq_getElem hi] at h
    cases h
    exact ⟨_, List.getElem?_eq_getElem hi, rfl⟩
  · rw [List.getElem?_replicate] at h
    split at h <;> cases h
theorem start_get {N : List Str} {vs : List V} {i : Nat} {v : V} (h : vs[i]? = some v) : (start N vs)[i]? = some (some v) := by
  unfold L2.start
  have hi : i < vs.length := (List.getElem?_eq_some_iff.mp h).1
  rw [List.getElem?_append_left (by rw [List.length_map]; exact hi), List.getElem?_map, h]
  rfl
section
variable {K : Frag} {X : Cx}
theorem RtRel.mono {F F' : Addr → Prop} {H H' : Hp} {v : V} {r : Rt} (h : ∀ a, F' a → F a) (q : RtRel K F H H' v r) : RtRel K F' H H' v r := by
  have sm : ∀ {A B : Addr → Prop}, (∀ a, B a → A a) → Same (cut H' A) (cut H' B) := fun hh a o q => cut_of (fun w => (cut_iff.mp q).1 (hh a w)) (cut_iff.mp q).2
  cases r with
  | val d => exact dp_mono (sm h) q
  | new ds =>
    obtain ⟨p, xs, h1, h2, h3, h4⟩ := q
    exact ⟨p, xs, h1, h2, h3, dpa_mono (sm fun a w => w.elim (fun z => .inl (h a z)) .inr) h4⟩
theorem fn_pure {P : Program} {w : World} {mg : Str → Option Value} {base : Heap} {x : Str} {st : Stmt} {f : Addr} {fd : FuncData} {N ps : List Str} {k : Nat} {M : MS} (F : Fun K x x st f fd) (S : FnScope N ps (defScope st)) (hNl : ps.length ≤ N.length)
    (hb : ∀ (cdv : Value) (A : Around) (outer : List Env) (s : Shared) (H : Hp) (E : XK), Room k (A.deeper (envOfC x (defScope st) s.heap.objs.size f cdv)) → PSs (cxOf CX0 P w K mg base N x (defScope st) f cdv A outer s H E).nox (defBody st) (tSOf K M)) :
    FnOk P w K mg base CX0 (k + 1) f fd ps (spP K ps.length (runP N.length M)) := by
  refine F.ok S (fun vs H Q E h => ?_) (fun cdv A outer s H vs Q E hr h => ⟨_, hb cdv A outer s H E hr, ?_⟩)
  · obtain ⟨G, ds, r, _, h2, h3, _⟩ := h
    rw [dpa_len h2, h3]
  · obtain ⟨G, ds, r, hG, hd, hl, hf, q⟩ := h
    have e0 : ∀ a, ¬ Own (start N vs) (startE N.length ds) a := by
      rintro a ⟨i, b, ds', h1, _⟩
      obtain ⟨d, _, z⟩ := startE_get h1
      cases z
    have sm : Same (cut H G) (vis G (start N vs) (startE N.length ds) H) := fun a o h => cut_of (fun w => w.elim (cut_iff.mp h).1 (e0 a)) (cut_iff.mp h).2
    have lv := dpa_len hd
    have rel : Rel K G (start N vs) H (startE N.length ds) := by
      refine ⟨?_, fun i d h => ?_, fun i b ds' h => ?_, fun i j b c ds' es p h => ?_, hG⟩
      · unfold L2.start startE
        simp only [List.length_append, List.length_map, List.length_replicate]
        omega
      · obtain ⟨d', h1, h2⟩ := startE_get h
        cases h2
        obtain ⟨v, h3, h4⟩ := dpa_get hd h1
        exact ⟨v, start_get h3, dp_mono sm h4⟩
      · obtain ⟨d', h1, h2⟩ := startE_get h
        cases h2
      · obtain ⟨d', h1, h2⟩ := startE_get h
        cases h2
    have keepS : ∀ {σ' : SS} {e' : Sg} {H' : Hp}, Step (start N vs) (startE N.length ds) H σ' e' H' → Same H H' := fun s a o h => s.keep a o h (e0 a)
    unfold runP at hf
    split at hf
    · rename_i r' e' hm
      cases hf
      exact ⟨G, _, _, _, rel, hm, fun v σ' H' s _ rr => q v H' (keepS s) (rr.mono fun a w => .inl w)⟩
    · rename_i e' hm
      cases hf
      exact ⟨G, _, _, _, rel, hm, fun σ' H' s _ => q _ H' (keepS s) .non⟩
    · cases hf
theorem fn_deck {P : Program} {w : World} {mg : Str → Option Value} {base : Heap} {x : Str} {st : Stmt} {f : Addr} {fd : FuncData} {N ps : List Str} {k : Nat} {M : MS} (F : Fun K x x st f fd) (S : FnScope N ps (defScope st)) (hNl : ps.length ≤ N.length)
    (hb : ∀ (cdv : Value) (A : Around) (outer : List Env) (s : Shared) (H : Hp) (E : XK), Room k (A.deeper (envOfC x (defScope st) s.heap.objs.size f cdv)) → PSs (cxOf CX0 P w K mg base N x (defScope st) f cdv A outer s H E).nox (defBody st) (tSOf K M)) :
    FnOk P w K mg base CX0 (k + 1) f fd ps (spK K ps.length (runK N.length M)) := by
  refine F.ok S (fun vs H Q E h => ?_) (fun cdv A outer s H vs Q E hr h => ⟨_, hb cdv A outer s H E hr, ?_⟩)
  · obtain ⟨G, p, xs, vs', ds0, ds, ds1, r, rfl, _, _, _, _, h2, h3, _⟩ := h
    rw [List.length_cons, dpa_len h2, h3]
  · obtain ⟨G, p, xs, vs', ds0, ds, ds1, r, rfl, hx, hGp, hG, hd0, hd, hl, hf, q⟩ := h
    have lv := dpa_len hd
    have e1 : ∀ {i : Nat} {s : Sl}, (startK N.length ds0 ds)[i]? = some (some s) → (i = 0 ∧ s = .own true ds0) ∨ ∃ j d, i = j + 1 ∧ ds[j]? = some d ∧ s = .val d := by
      intro i s h
      cases i with
      | zero =>
        cases h
        exact .inl ⟨rfl, rfl⟩
      | succ j =>
        have h' : (startE (N.length - 1) ds)[j]? = some (some s) := h
        obtain ⟨d, h1, h2⟩ := startE_get h'
        exact .inr ⟨j, d, rfl, h1, h2⟩
    have e0 : ∀ a, Own (start N (.ref p :: vs')) (startK N.length ds0 ds) a ↔ a = p := by
      intro a
      constructor
      · rintro ⟨i, b, ds', h1, h2⟩
        rcases e1 h1 with ⟨rfl, _⟩ | ⟨j, d, _, _, z⟩
        · cases h2
          rfl
        · cases z
      · rintro rfl
        exact ⟨0, true, ds0, rfl, rfl⟩
    have sm : Same (cut H (fun a => G a ∨ a = p)) (vis G (start N (.ref p :: vs')) (startK N.length ds0 ds) H) := fun a o h => cut_of (fun w => (cut_iff.mp h).1 (w.imp id (e0 a).mp)) (cut_iff.mp h).2
    have rel : Rel K G (start N (.ref p :: vs')) H (startK N.length ds0 ds) := by
      refine ⟨?_, fun i d h => ?_, fun i b ds' h => ?_, fun i j b c ds' es p' h1 h2 _ _ => ?_, hG⟩
      · unfold L2.start startK
        simp only [List.length_append, List.length_map, List.length_replicate, List.length_cons]
        omega
      · rcases e1 h with ⟨_, z⟩ | ⟨j, d', rfl, h1, h2⟩
        · cases z
        · cases h2
          obtain ⟨v, h3, h4⟩ := dpa_get hd h1
          exact ⟨v, start_get (vs := .ref p :: vs') (by rw [List.getElem?_cons_succ]; exact h3), dp_mono sm h4⟩
      · rcases e1 h with ⟨rfl, z⟩ | ⟨j, d', rfl, h1, h2⟩
        · cases z
          exact ⟨p, xs, rfl, hx, dpa_mono sm hd0, hGp⟩
        · cases h2
      · rcases e1 h1 with ⟨rfl, _⟩ | ⟨j', d', _, _, z⟩
        · rcases e1 h2 with ⟨rfl, _⟩ | ⟨j', d', _, _, z⟩
          · rfl
          · cases z
        · cases z
    have fin : ∀ {v : V} {σ' : SS} {e' : Sg} {H' : Hp} {r' : Rt}, Step (start N (.ref p :: vs')) (startK N.length ds0 ds) H σ' e' H' → Rel K G σ' H' e' → e'[0]? = some (some (.own true ds1)) → RtRel K (fun a => G a ∨ Own σ' e' a) H H' v r' → r' = r → Q v H' := by
      intro v σ' e' H' r' s rr h0 q' er
      subst er
      obtain ⟨t1, ds', t2⟩ := s.par 0 ds0 rfl
      have t1' : σ'[0]? = some (some (.ref p)) := t1
      obtain ⟨p', xs', u1, u2, u3, u4⟩ := rr.own 0 true ds1 h0
      rw [t1'] at u1
      cases u1
      have ow : Own σ' e' p := ⟨0, true, ds1, h0, t1'⟩
      refine q v H' xs' (fun a o h n => s.keep a o h fun w => n ((e0 a).mp w)) u2 (dpa_mono ?_ u3) (q'.mono fun a w => w.imp id (fun z => by rw [z]; exact ow))
      exact fun a o h => cut_of (fun w => (cut_iff.mp h).1 (w.imp id (fun z => by rw [z]; exact ow))) (cut_iff.mp h).2
    unfold runK at hf
    split at hf
    · rename_i r' e' hm
      split at hf
      · rename_i ds1' h0
        cases hf
        exact ⟨G, _, _, _, rel, hm, fun v σ' H' s rr q' => fin s rr h0 q' rfl⟩
      · cases hf
    · rename_i e' hm
      split at hf
      · rename_i ds1' h0
        cases hf
        exact ⟨G, _, _, _, rel, hm, fun σ' H' s rr => fin (r' := .val .none) s rr h0 .non rfl⟩
      · cases hf
    · cases hf
end
end PB

set_option maxHeartbeats 4000000
namespace PB
open PySem PySem.Spec PyProof.Rows L2

structure DefAt (K : Frag) (mg : Str → Option Value) (x : Str) (st : Stmt) : Prop where
  ex : ∃ f fd, Fun K x x st f fd ∧ mg x = some (.ref f)
structure DefOk (P : Program) (w : World) (K : Frag) (mg : Str → Option Value) (base : Heap) (k : Nat) (x : Str) (sp : Sp) : Prop where
  ex : ∃ f fd ps, FnOk P w K mg base CX0 k f fd ps sp ∧ mg x = some (.ref f) ∧ PySem.W.keepIn K (.ref f) = true ∧ Binds K fd ps []
theorem DefOk.mono {P : Program} {w : World} {K : Frag} {mg : Str → Option Value} {base : Heap} {j k : Nat} {x : Str} {sp : Sp} (h : DefOk P w K mg base j x sp) (hk : j ≤ k) : DefOk P w K mg base k x sp := by
  obtain ⟨f, fd, ps, h1, h2⟩ := h.ex
  exact ⟨f, fd, ps, h1.mono hk, h2⟩
def toD : Rt → D
  | .val d => d
  | .new ds => .list ds
def mCall (n : Nat) (f : Fp) (ms : ML) : ME := fun e => (ms e).bind fun r => if r.1.length = n then (f r.1).map fun x => (toD x, r.2) else none
def mCallN (n : Nat) (f : Fp) (ms : ML) : ML := fun e => (ms e).bind fun r => if r.1.length = n then (f r.1).bind fun x => (match x with
  | .new ds => some (ds, r.2)
  | .val _ => none) else none
def mCallK (i n : Nat) (f : Fk) (ms : ML) : ME := fun e => match e[i]? with
  | some (some (.own _ _)) => (ms e).bind fun r => match r.2[i]? with
    | some (some (.own b ds0)) => if r.1.length + 1 = n then (f ds0 r.1).map fun x => (toD x.1, r.2.set i (some (.own b x.2))) else none
    | _ => none
  | _ => none
section
variable {K : Frag} {X : Cx} {G : Addr → Prop} {σ : SS} {H H' : Hp} {e : Sg} {a : Expr} {es : List Expr} {ms : ML} {x : Str} {p pos : Pos} {k n : Nat} {f : Fp} {fk : Fk}
theorem RtRel.toD {F : Addr → Prop} {v : V} {r : Rt} (hF : ∀ a, F a → H a ≠ none) (q : RtRel K F H H' v r) : Dp K (cut H' F) v (toD r) := by
  cases r with
  | val d => exact q
  | new ds =>
    obtain ⟨p, xs, rfl, h2, h3, h4⟩ := q
    refine .lst (.of (cut_of (fun w => hF p w h2) h3)) (dpa_mono ?_ h4)
    exact fun a o h => cut_of (fun w => (cut_iff.mp h).1 (.inl w)) (cut_iff.mp h).2
theorem je_call (o : DefOk X.prog X.w X.K X.mg X.base k x (spP X.K n f)) (hr : Room k X.A) (hg : Gl X x) (ha : PA X (a :: es) (tAOf X.K ms)) (hdb : (x == ("__debug__" : Str)) = false := by decide)
    (he : starEach (a :: es) X.env = (false, eval a X.env) :: starEach es X.env := by rfl) (hpl : (backTo pos (starEach es X.env)).any (·.1) = false := by rfl) : PE X (.Call (.Name x p) (a :: es) [] pos) (tOf X.K (mCall n f ms)) := by
  obtain ⟨fa, fd, ps, h1, h2, h3, h4⟩ := o.ex
  refine PE.imp (pe_call (E := E0) h1 hr hg h2 h3 h4 .nil pass0 ha hdb he hpl) ?_
  rintro σ H Q ⟨G, e, d, e', rel, hm, k⟩
  obtain ⟨⟨ds, e1⟩, q1, hm⟩ := Option.bind_eq_some_iff.mp hm
  simp only at hm
  split at hm
  · rename_i hn
    obtain ⟨r, q2, hm⟩ := Option.map_eq_some_iff.mp hm
    obtain ⟨rfl, rfl⟩ := Prod.mk.inj hm
    refine ⟨G, e, ds, _, rel, q1, fun vs H1 s1 r1 dps => ?_⟩
    show spP _ _ _ (vs ++ []) _ _ _
    rw [List.append_nil]
    exact ⟨fun a => G a ∨ Own σ _ a, ds, r, r1.ne0, dps, hn, q2, fun v H2 sm rr => k v H2 (s1.trans (.grow sm)) (r1.grow sm) (rr.toD r1.ne0)⟩
  · cases hm
theorem Rel.foreign' {Dl : Addr} (r : Rel K G σ H e) (s : Same H H') (hD : H Dl = none) (hx : H' Dl ≠ none) : Rel K (fun a => G a ∨ a = Dl) σ H' e := by
  have sm : Same (vis G σ e H) (vis (fun a => G a ∨ a = Dl) σ e H') := fun a u h => by
    obtain ⟨h1, h2⟩ := cut_iff.mp h
    have hne : a ≠ Dl := ne_of_none h2 hD
    refine cut_of ?_ (s a u h2)
    rintro ((w | w) | w)
    · exact h1 (.inl w)
    · exact hne w
    · exact h1 (.inr w)
  refine ⟨r.len, fun i d h => ?_, fun i b ds h => ?_, r.sep, fun a h q => ?_⟩
  · obtain ⟨v, h1, h2⟩ := r.val i d h
    exact ⟨v, h1, dp_mono sm h2⟩
  · obtain ⟨p, xs, h1, h2, h3, h4⟩ := r.own i b ds h
    have hne : p ≠ Dl := ne_of_none h2 hD
    exact ⟨p, xs, h1, s _ _ h2, dpa_mono sm h3, fun w => w.elim h4 hne⟩
  · rcases h with h | h
    · exact r.frn a h (s.free q)
    · rw [h] at q
      exact hx q
theorem jn_call (o : DefOk X.prog X.w X.K X.mg X.base k x (spP X.K n f)) (hr : Room k X.A) (hg : Gl X x) (ha : PA X (a :: es) (tAOf X.K ms)) (hdb : (x == ("__debug__" : Str)) = false := by decide)
    (he : starEach (a :: es) X.env = (false, eval a X.env) :: starEach es X.env := by rfl) (hpl : (backTo pos (starEach es X.env)).any (·.1) = false := by rfl) : PE X (.Call (.Name x p) (a :: es) [] pos) (tNOf X.K (mCallN n f ms)) := by
  obtain ⟨fa, fd, ps, h1, h2, h3, h4⟩ := o.ex
  refine PE.imp (pe_call (E := E0) h1 hr hg h2 h3 h4 .nil pass0 ha hdb he hpl) ?_
  rintro σ H Q ⟨G, e, d, e', rel, hm, k⟩
  obtain ⟨⟨ds, e1⟩, q1, hm⟩ := Option.bind_eq_some_iff.mp hm
  simp only at hm
  split at hm
  · rename_i hn
    obtain ⟨r, q2, hm⟩ := Option.bind_eq_some_iff.mp hm
    split at hm
    · cases hm
      refine ⟨G, e, ds, _, rel, q1, fun vs H1 s1 r1 dps => ?_⟩
      show spP _ _ _ (vs ++ []) _ _ _
      rw [List.append_nil]
      refine ⟨fun a => G a ∨ Own σ _ a, ds, _, r1.ne0, dps, hn, q2, fun v H2 sm rr => ?_⟩
      obtain ⟨p, xs, rfl, u2, u3, u4⟩ := rr
      refine k p xs H2 (s1.trans (.grow sm)) (r1.foreign' sm u2 (by rw [u3]; exact fun z => nomatch z)) (s1.there p u2) u3 (dpa_mono ?_ u4)
      intro a o h
      obtain ⟨w1, w2⟩ := cut_iff.mp h
      refine cut_of ?_ w2
      rintro ((w | w) | w)
      · exact w1 (.inl (.inl w))
      · exact w1 (.inr w)
      · exact w1 (.inl (.inr w))
    · cases hm
  · cases hm
theorem callK_of {i : Nat} : ∀ σ H Q, tOf K (mCallK i n fk ms) σ H Q → tCall (spK K n fk) [] E0 (tCons (tVar i) (tAOf K ms)) σ H Q := by
  rintro σ H Q ⟨G, e, d, e', rel, hm, k⟩
  unfold mCallK at hm
  split at hm
  · rename_i b0 ds00 h0
    obtain ⟨⟨ds, e1⟩, q1, hm⟩ := Option.bind_eq_some_iff.mp hm
    simp only at hm
    split at hm
    · rename_i b ds0 hj
      split at hm
      · rename_i hn
        obtain ⟨⟨r, ds1⟩, q2, hm⟩ := Option.map_eq_some_iff.mp hm
        obtain ⟨rfl, rfl⟩ := Prod.mk.inj hm
        obtain ⟨q, xs0, s1, _⟩ := rel.own i _ _ h0
        refine ⟨.ref q, s1, G, e, ds, e1, rel, q1, fun vs H1 st r1 dps => ?_⟩
        obtain ⟨q', xs, s2, hx, hd2, hGq⟩ := r1.own i _ _ hj
        rw [s1] at s2
        cases s2
        have ow : Own σ e1 q := ⟨i, b, ds0, hj, s1⟩
        have sm0 : Same (vis G σ e1 H1) (cut H1 (fun a => (G a ∨ (Own σ e1 a ∧ a ≠ q)) ∨ a = q)) := fun a o h => by
          obtain ⟨w1, w2⟩ := cut_iff.mp h
          refine cut_of ?_ w2
          rintro ((w | w) | w)
          · exact w1 (.inl w)
          · exact w1 (.inr w.1)
          · exact w1 (.inr (by rw [w]; exact ow))
        show spK _ _ _ ((.ref q :: vs) ++ []) _ _ _
        rw [List.append_nil]
        refine ⟨fun a => G a ∨ (Own σ e1 a ∧ a ≠ q), q, xs, vs, ds0, ds, ds1, r, rfl, hx, fun w => w.elim hGq fun z => z.2 rfl, fun a w => r1.ne0 a (w.imp id (·.1)), dpa_mono sm0 hd2, dpa_mono sm0 dps, hn, q2, fun v H2 xs' keep hx' hd' rr => ?_⟩
        -- the heap behind, with the list as it was
        have hup : upd (upd H2 q (.lst xs)) q (.lst xs') = H2 := by
          rw [upd_upd]
          funext c
          by_cases hc : c = q
          · rw [hc, upd_same, hx']
          · rw [upd_ne hc]
        have smG : Same H1 (upd H2 q (.lst xs)) := fun c o h => by
          by_cases hc : c = q
          · rw [hc, hx] at h
            cases h
            rw [hc, upd_same]
          · rw [upd_ne hc]
            exact keep c o h hc
        have r2 := r1.grow smG
        have smV : Same (cut H2 (fun a => (G a ∨ (Own σ e1 a ∧ a ≠ q)) ∨ a = q)) (vis G σ e1 (upd H2 q (.lst xs))) := fun c o h => by
          obtain ⟨w1, w2⟩ := cut_iff.mp h
          have hc : c ≠ q := fun z => w1 (.inr z)
          refine cut_of ?_ (by rw [upd_ne hc]; exact w2)
          rintro (w | w)
          · exact w1 (.inl (.inl w))
          · exact w1 (.inl (.inr ⟨w, hc⟩))
        obtain ⟨st2, r3⟩ := own_write r2 hj s1 (dpa_mono smV hd')
        rw [hup] at st2 r3
        refine k v H2 ((st.trans (.grow smG)).trans st2) r3 (dp_mono ?_ (rr.toD fun a w => ?_))
        · intro c o h
          have h' := smV c o h
          exact (Step.vis (G := G) st2) c o h'
        · rcases w with w | w
          · exact r1.ne0 a (w.imp id (·.1))
          · rw [w, hx]
            exact fun z => nomatch z
      · cases hm
    · cases hm
  · cases hm
/-- f(deck, ..) -/
theorem je_callK (i : Nat) {y : Str} {py : Pos} (o : DefOk X.prog X.w X.K X.mg X.base k x (spK X.K n fk)) (hr : Room k X.A) (hg : Gl X x) (ha : PA X es (tAOf X.K ms)) (hN : X.N[i]? = some y := by rfl)
    (hv : Vis X.env.scope y := by first | exact Or.inl rfl | exact Or.inr (Or.inl rfl) | exact Or.inr (Or.inr rfl)) (hd : (y == ("__debug__" : Str)) = false := by decide) (hcd : (y == ("__classdict__" : Str)) = false := by decide) (hdb : (x == ("__debug__" : Str)) = false := by decide)
    (he : starEach (.Name y py :: es) X.env = (false, eval (.Name y py) X.env) :: starEach es X.env := by rfl) (hpl : (backTo pos (starEach es X.env)).any (·.1) = false := by rfl) : PE X (.Call (.Name x p) (.Name y py :: es) [] pos) (tOf X.K (mCallK i n fk ms)) := by
  obtain ⟨fa, fd, ps, h1, h2, h3, h4⟩ := o.ex
  exact PE.imp (pe_call (E := E0) h1 hr hg h2 h3 h4 .nil pass0 (pa_cons (pe_var hN hv hd hcd) ha he) hdb he hpl) callK_of
end
/-! ### a def keeps what its text does -/
section
variable {P : Program} {w : World} {K : Frag} {mg : Str → Option Value} {base : Heap} {x : Str} {st : Stmt} {N ps : List Str} {k : Nat} {M : MS}
theorem def_pure (d : DefAt K mg x st) (S : FnScope N ps (defScope st)) (hNl : ps.length ≤ N.length)
    (bd : ∀ (kV doc pm : Value) (an : Option Addr) (cdv ct : Value) (us : List Value), us.length = ps.length → bindArgs (PySem.W.fnOf x x (defArgs st) (defBody st) (defScope st) .none kV doc pm an cdv ct) ⟨us, []⟩ = pure (ps.zip us))
    (hb : ∀ (f : Addr) (cdv : Value) (A : Around) (outer : List Env) (s : Shared) (H : Hp) (E : XK), Room k (A.deeper (envOfC x (defScope st) s.heap.objs.size f cdv)) → PSs (cxOf CX0 P w K mg base N x (defScope st) f cdv A outer s H E).nox (defBody st) (tSOf K M)) :
    DefOk P w K mg base (k + 1) x (spP K ps.length (runP N.length M)) := by
  obtain ⟨f, fd, F, g⟩ := d.ex
  exact ⟨f, fd, ps, fn_pure F S hNl (hb f), g, F.kp, F.binds bd⟩
theorem def_deck (d : DefAt K mg x st) (S : FnScope N ps (defScope st)) (hNl : ps.length ≤ N.length)
    (bd : ∀ (kV doc pm : Value) (an : Option Addr) (cdv ct : Value) (us : List Value), us.length = ps.length → bindArgs (PySem.W.fnOf x x (defArgs st) (defBody st) (defScope st) .none kV doc pm an cdv ct) ⟨us, []⟩ = pure (ps.zip us))
    (hb : ∀ (f : Addr) (cdv : Value) (A : Around) (outer : List Env) (s : Shared) (H : Hp) (E : XK), Room k (A.deeper (envOfC x (defScope st) s.heap.objs.size f cdv)) → PSs (cxOf CX0 P w K mg base N x (defScope st) f cdv A outer s H E).nox (defBody st) (tSOf K M)) :
    DefOk P w K mg base (k + 1) x (spK K ps.length (runK N.length M)) := by
  obtain ⟨f, fd, F, g⟩ := d.ex
  exact ⟨f, fd, ps, fn_deck F S hNl (hb f), g, F.kp, F.binds bd⟩
end
end PB
namespace PB
open PySem PySem.Spec PyProof.Rows L2
section
variable {P : Program} {w : World} {K : Frag} {mg : Str → Option Value} {base : Heap} {x : Str} {st : Stmt} {ps : List Str} {k n : Nat}
theorem def_noneK (d : DefAt K mg x st)
    (bd : ∀ (kV doc pm : Value) (an : Option Addr) (cdv ct : Value) (us : List Value), us.length = ps.length → bindArgs (PySem.W.fnOf x x (defArgs st) (defBody st) (defScope st) .none kV doc pm an cdv ct) ⟨us, []⟩ = pure (ps.zip us)) :
    DefOk P w K mg base k x (spK K n fun _ _ => none) := by
  obtain ⟨f, fd, F, g⟩ := d.ex
  refine ⟨f, fd, ps, ⟨fun vs H Q E h => ?_, fun A outer s H args us vs Q E _ _ _ _ h => ?_⟩, g, F.kp, F.binds bd⟩
  · obtain ⟨_, _, _, _, _, _, _, _, _, _, _, _, _, _, _, h, _⟩ := h
    cases h
  · obtain ⟨_, _, _, _, _, _, _, _, _, _, _, _, _, _, _, h, _⟩ := h
    cases h
theorem def_noneP (d : DefAt K mg x st)
    (bd : ∀ (kV doc pm : Value) (an : Option Addr) (cdv ct : Value) (us : List Value), us.length = ps.length → bindArgs (PySem.W.fnOf x x (defArgs st) (defBody st) (defScope st) .none kV doc pm an cdv ct) ⟨us, []⟩ = pure (ps.zip us)) :
    DefOk P w K mg base k x (spP K n fun _ => none) := by
  obtain ⟨f, fd, F, g⟩ := d.ex
  refine ⟨f, fd, ps, ⟨fun vs H Q E h => ?_, fun A outer s H args us vs Q E _ _ _ _ h => ?_⟩, g, F.kp, F.binds bd⟩
  · obtain ⟨_, _, _, _, _, _, h, _⟩ := h
    cases h
  · obtain ⟨_, _, _, _, _, _, h, _⟩ := h
    cases h
end
end PB

set_option maxHeartbeats 4000000
namespace PB
open PySem PySem.Spec PyProof.Rows L2

section
variable {prog : Program} {w : World} {A : Around} {E : Value → Shared → Prop} {s : Shared}
theorem sliceApplied_rev {sl : Addr} {vl vu vs : Value} {n : Nat} {Q : Int × Int × Nat → Shared → Prop} (hs : s.heap.IsSliceOf sl vl vu vs) (pl : IsPart vl none) (pu : IsPart vu none) (ps : IsPart vs (some (-1)))
    (h : Q ((n : Int) - 1, -1, n) s) : wpAny (model prog w) A (Builtin.Slice.sliceApplied (.ref sl) (pure (n : Int))) Q E s := by
  obtain ⟨os, hos, hcs, hds⟩ := id hs
  unfold Builtin.Slice.sliceApplied Builtin.Slice.sliceFields
  refine wpAny_bind (wpAny_bind (wpAny_field hos hds (x := vl) rfl (wpAny_bind (wpAny_field hos hds (x := vu) rfl (wpAny_bind (wpAny_field hos hds (x := vs) rfl (wpAny_pure ?_)))))))
  refine wpAny_bind (HT.slicePart_ ps ?_)
  show wpAny _ _ (if ((-1 : Int) == 0) = true then _ else _) _ _ s
  rw [if_neg (by decide)]
  refine wpAny_bind (HT.slicePart_ pl (wpAny_bind (HT.slicePart_ pu (wpAny_bind (wpAny_pure ?_)))))
  show wpAny _ _ (match Builtin.Slice.sliceAdjust none none (-1) (n : Int) with | (lo, hi) => pure (lo, (-1 : Int), Builtin.Slice.slicePlaces lo hi (-1))) _ _ s
  have e1 : Builtin.Slice.sliceAdjust none none (-1) (n : Int) = ((n : Int) - 1, -1) := rfl
  have e2 : Builtin.Slice.slicePlaces ((n : Int) - 1) (-1) (-1) = n := by
    unfold Builtin.Slice.slicePlaces
    rw [if_neg (by decide)]
    split
    · rw [show (- -1 : Int) = 1 by decide, Int.ediv_one]
      omega
    · omega
  rw [e1]
  show wpAny _ _ (pure ((n : Int) - 1, (-1 : Int), Builtin.Slice.slicePlaces ((n : Int) - 1) (-1) (-1))) _ _ s
  rw [e2]
  exact wpAny_pure h
theorem fm_congr {α β : Type} {f g : α → Option β} : ∀ {l : List α}, (∀ m ∈ l, f m = g m) → l.filterMap f = l.filterMap g
  | [], _ => rfl
  | x :: r, h => by
    rw [List.filterMap_cons, List.filterMap_cons, h x List.mem_cons_self, fm_congr fun m hm => h m (List.mem_cons_of_mem _ hm)]
theorem pick_rev (xs : Array Value) : ((List.range xs.size).filterMap fun (m : Nat) => xs[(((xs.size : Int) - 1) + (m : Int) * (-1)).toNat]?).toArray = xs.toList.reverse.toArray := by
  congr 1
  have e : ((List.range xs.size).map fun k => xs.size - 1 - k).filterMap (xs[·]?) = xs.toList.reverse := by
    rw [PySem.W.krv_range, List.filterMap_reverse, PySem.W.krv_all]
  rw [List.filterMap_map] at e
  rw [← e]
  refine fm_congr fun m hm => ?_
  have := List.mem_range.mp hm
  have e2 : (((xs.size : Int) - 1) + (m : Int) * (-1)).toNat = xs.size - 1 - m := by omega
  rw [e2]
  rfl
theorem getItem_tuple_rev {t sl : Addr} {items : Array Value} {vl vu vs : Value} {Q : Value → Shared → Prop} (ht : IsTup s.heap t items) (hs : s.heap.IsSliceOf sl vl vu vs) (pl : IsPart vl none) (pu : IsPart vu none) (ps : IsPart vs (some (-1)))
    (h : Q (.ref s.heap.objs.size) { s with heap := s.heap.push { cls := .type "tuple", data := .seq items.toList.reverse.toArray } })
    (hsz : items.size ≤ sizeLine) : wpAny (model prog w) A (getItem (.ref t) (.ref sl)) Q E s := by
  have htake : sizeOk (.seq items.toList.reverse.toArray) := by
    show items.toList.reverse.toArray.size ≤ sizeLine
    rw [List.size_toArray, List.length_reverse, Array.length_toList]
    exact hsz
  obtain ⟨os, hos, hcs, hds⟩ := id hs
  have hTs : s.TypeIs (.ref sl) "slice" := ⟨os, hos, hcs⟩
  unfold getItem
  try with_reducible refine wpAny_holding ?_
  first | refine wpAny_bind (wpAny_pure ?_) | skip
  refine wpAny_bind (wpAny_sequenceKey ht.typeIs (by decide) ?_)
  refine wpAny_bind (wpAny_callSpecial?_slot (name := Str.ofString "__getitem__") ht.typeIs PyProof.Rows.slot_tuple_getitem
    (wpAny_call_entry PyProof.Rows.slot_tuple_getitem ht.typeIs entry_tuple_getitem ?_ (args_tuple_getitem _ _)))
  show wpAny _ _ (Builtin.Tuple.tupleItemsOf (.ref t) >>= _) _ _ s
  refine wpAny_bind (tupleItemsOf_ ht ?_)
  refine wpAny_bind (wpAny_typeOf hTs ?_)
  rw [if_pos (by decide)]
  refine wpAny_bind (sliceApplied_rev hs pl pu ps ?_)
  have hno : ¬ ((((items.size : Int) - 1 == 0) && (-1 : Int) == 1 && items.size == items.size) = true) := by
    intro q
    rw [Bool.and_eq_true, Bool.and_eq_true] at q
    exact absurd q.1.2 (by decide)
  show wpAny _ _ (if (((items.size : Int) - 1 == 0) && (-1 : Int) == 1 && items.size == items.size) = true then _ else _) _ _ s
  rw [if_neg hno, pick_rev]
  first
    | exact wpAny_bind (m := Builtin.Tuple.tupleExact _) (wpAny_newObj_type (wpAny_pure ⟨_, rfl, wpAny_pure h⟩) htake)
    | exact wpAny_bind (m := Builtin.Tuple.tupleExact _) (wpAny_newObj_type (wpAny_bind (wpAny_pure (wpAny_pure ⟨_, rfl, wpAny_pure h⟩))) htake)
    | exact wpAny_bind (wpAny_bind (m := Builtin.Tuple.tupleExact _) (wpAny_newObj_type (wpAny_pure (wpAny_pure ⟨_, rfl, wpAny_pure h⟩)) htake))
    | exact wpAny_bind (wpAny_bind (m := Builtin.Tuple.tupleExact _) (wpAny_newObj_type (wpAny_pure ⟨_, rfl, wpAny_pure h⟩) htake))
end
section
variable {X : Cx} {a : Expr} {ma : ME}
def tRevA (K : Frag) (te : TE) : TE := fun σ H Q => te σ H fun x H1 => ∃ a xs, x = .ref a ∧ ((SqL K H1 a xs ∧ ∀ p, H1 p = none → Q (.ref p) (upd H1 p (.lst xs.reverse))) ∨ (SqT K H1 a xs ∧ ∀ p, H1 p = none → Q (.ref p) (upd H1 p (.tup xs.reverse))))
theorem pe_revA {te : TE} {k : Nat} {p1 p2 p3 pos : Pos} (he : PE X a te) : PE X (.Subscript a (.Slice none none (some (.UnaryOp .USub (.Constant (.int 1) k p1) p2)) p3) pos) (tRevA X.K te) := by
  refine ⟨fun pins s σ H Q I h => ?_⟩
  refine Subscript_ (thn (he.run pins s σ H _ I h) fun v s1 ⟨x, H1, I1, r1, q1⟩ => ?_)
  obtain ⟨l, xs, ex, q⟩ := q1
  subst ex
  cases r1
  have hst : PO X (some (.UnaryOp .USub (.Constant (.int 1) k p1) p2)) (tPart (tUn (rU fun i => .int (-i)) (tC (.int 1)))) := po_some (pe_un un_neg pe_int)
  refine wpAny_Slice (thn (po_none.run pins s1 σ H1 (fun o H2 => o = none ∧ H2 = H1) I1 ⟨rfl, rfl⟩) fun vl s2 ⟨lo, H2, I2, pl, el, e2⟩ => ?_)
  subst el e2
  refine thn (po_none.run pins s2 σ H2 (fun o H3 => o = none ∧ H3 = H2) I2 ⟨rfl, rfl⟩) fun vu s3 ⟨u, H3, I3, pu, eu, e3⟩ => ?_
  subst eu e3
  refine thn (hst.run pins s3 σ H3 (fun o H4 => o = some (-1) ∧ H4 = H3) I3 ⟨1, rfl, -1, rfl, rfl, rfl⟩) fun vs s4 ⟨o, H4, I4, ps, eo, e4⟩ => ?_
  subst eo e4
  have I5 : Inv X pins σ H4 { s4 with heap := s4.heap.push { cls := .type "slice", data := .fields #[vl, vu, vs] } } := I4.kept (t' := s4.toks) fun b ob q => Heap.get?_push_of_some _ q
  show wpAny (model X.prog X.w) X.A (subscriptTail a (.Slice none none (some (.UnaryOp .USub (.Constant (.int 1) k p1) p2)) p3) (.ref l) (.ref s4.heap.objs.size)) (EP X pins σ Q) X.xe { s4 with heap := s4.heap.push { cls := .type "slice", data := .fields #[vl, vu, vs] } }
  rcases q with ⟨hx, q⟩ | ⟨hx, q⟩
  · obtain ⟨its, r, ht, hz⟩ := I5.list hx
    have hlen := r.length
    refine tail_any (ops := [.ref l, .ref s4.heap.objs.size]) ht.isList.typeIs (PySem.slot_list_getitem.lookup) ?_ (by with_unfolding_all rfl)
    refine wpAny_getItem_list_slice ht.isList (Heap.IsSliceOf.new _ vl vu vs) pl pu ps (by decide) ?_ (by rw [List.size_toArray]; omega)
    rw [PySem.W.krv_pick]
    refine ⟨.ref _, _, I5.laid (t' := s4.toks) (o := .lst xs.reverse) (fun b ob q => Heap.get?_push_of_some _ q) (Nat.le_refl _) ?_, rfl, q _ (I5.hok.fresh (Nat.le_refl _))⟩
    exact ⟨by rw [List.length_reverse]; exact hz, _, 0, r.reverse, Heap.get?_push_size _ rfl⟩
  · obtain ⟨its, r, ht, hz⟩ := I5.tuple hx
    have hlen := r.length
    refine tail_any (ops := [.ref l, .ref s4.heap.objs.size]) ht.typeIs (PyProof.Rows.slot_tuple_getitem.lookup) ?_ (by with_unfolding_all rfl)
    refine getItem_tuple_rev ht (Heap.IsSliceOf.new _ vl vu vs) pl pu ps ?_ (by rw [List.size_toArray]; omega)
    refine ⟨.ref _, _, I5.laid (t' := s4.toks) (o := .tup xs.reverse) (fun b ob q => Heap.get?_push_of_some _ q) (Nat.le_refl _) ?_, rfl, q _ (I5.hok.fresh (Nat.le_refl _))⟩
    exact ⟨by rw [List.length_reverse]; exact hz, _, r.reverse, IsTup.new _ _⟩
def dRev : D → Option D
  | .list ds => some (.list ds.reverse)
  | .tuple ds => some (.tuple ds.reverse)
  | _ => none
theorem je_rev {k : Nat} {p1 p2 p3 pos : Pos} (ha : PE X a (tOf X.K ma)) : PE X (.Subscript a (.Slice none none (some (.UnaryOp .USub (.Constant (.int 1) k p1) p2)) p3) pos) (tOf X.K (mUn dRev ma)) := by
  refine PE.imp (pe_revA ha) ?_
  rintro σ H Q ⟨G, e, d, e', rel, hm, k⟩
  obtain ⟨⟨d1, e1⟩, h1, hm⟩ := Option.bind_eq_some_iff.mp hm
  obtain ⟨z, h2, hm⟩ := Option.map_eq_some_iff.mp hm
  obtain ⟨rfl, rfl⟩ := Prod.mk.inj hm
  refine ⟨G, e, d1, _, rel, h1, fun v H1 s1 r1 dp => ?_⟩
  simp only at h2
  unfold dRev at h2
  split at h2
  · cases h2
    obtain ⟨l, xs, rfl, q1, t1⟩ := dp_list dp
    exact ⟨l, xs, rfl, .inl ⟨same_cut.seq q1, fun p hp => k _ _ (s1.trans (.grow (same_new hp))) (r1.grow (same_new hp)) (dp_newL r1.ne0 hp (dpa_rev t1))⟩⟩
  · cases h2
    obtain ⟨l, xs, rfl, q1, t1⟩ := dp_tup dp
    exact ⟨l, xs, rfl, .inr ⟨same_tup same_cut q1, fun p hp => k _ _ (s1.trans (.grow (same_new hp))) (r1.grow (same_new hp)) (dp_newT r1.ne0 hp (dpa_rev t1))⟩⟩
  · cases h2
end
end PB
namespace PB
open PySem PySem.Spec PyProof.Rows L2
section
variable {K : Frag} {X : Cx} {ms : ML}
theorem new_of : ∀ σ H Q, tOf K (mNew ms) σ H Q → tNOf K ms σ H Q := by
  rintro σ H Q ⟨G, e, d, e', rel, hm, k⟩
  obtain ⟨⟨d1, e1⟩, h1, hm⟩ := Option.map_eq_some_iff.mp hm
  obtain ⟨rfl, rfl⟩ := Prod.mk.inj hm
  refine ⟨G, e, d1, _, rel, h1, fun p xs H1 s1 r1 hp hx dps => k _ H1 s1 r1.tame ?_⟩
  exact .lst (.of (cut_of (fun w => w.elim (fun g => rel.frn p g hp) r1.notOwn) hx)) (dpa_mono vis_tame dps)
theorem set_of {i : Nat} {me : ME} {te : TE} (h : ∀ σ H Q, tOf K me σ H Q → te σ H Q) : ∀ D σ H, tSOf K (sAsg me (bName i)) D σ H → tAsg te (gName i) D σ H := by
  rintro D σ H ⟨G, e, o, e', rel, hm, k⟩
  obtain ⟨⟨d1, e1⟩, h1, hm⟩ := Option.bind_eq_some_iff.mp hm
  obtain ⟨e2, h2, hm⟩ := Option.map_eq_some_iff.mp hm
  obtain ⟨rfl, rfl⟩ := Prod.mk.inj hm
  refine h σ H _ ⟨G, e, d1, e1, rel, h1, fun v H1 s1 r1 dp => ?_⟩
  unfold bName at h2
  split at h2
  · rename_i hc
    cases h2
    simp only [Bool.and_eq_true, decide_eq_true_eq, Bool.not_eq_true'] at hc
    obtain ⟨st, r2⟩ := put_val r1 hc.1 hc.2 dp
    exact k _ H1 (s1.trans st) r2
  · cases h2
theorem setOwn_of {i : Nat} {te : TE} (h : ∀ σ H Q, tNOf K ms σ H Q → te σ H Q) : ∀ D σ H, tSOf K (sAsgOwn i ms) D σ H → tAsg te (gName i) D σ H := by
  rintro D σ H ⟨G, e, o, e', rel, hm, k⟩
  obtain ⟨⟨d1, e1⟩, h1, hm⟩ := Option.bind_eq_some_iff.mp hm
  simp only at hm
  split at hm
  · rename_i hc
    simp only [Bool.and_eq_true, decide_eq_true_eq, Bool.not_eq_true'] at hc
    cases hm
    refine h σ H _ ⟨G, e, _, _, rel, h1, fun p xs H1 s1 r1 hp hx dp => ?_⟩
    obtain ⟨r2, own'⟩ := put_own r1 hc.1 (fun g => rel.frn p g hp) hx dp
    refine k _ H1 ⟨s1.keep, fun b w => ?_, s1.there, fun j ds hj => ?_⟩ r2
    · rcases own' b w with q | q
      · exact s1.new b q
      · rw [q]
        exact .inr hp
    · obtain ⟨_, ds', q2⟩ := s1.par j ds hj
      have hne : i ≠ j := fun q => by
        rw [q, q2] at hc
        cases hc.2
      rw [List.getElem?_set, List.getElem?_set, if_neg hne, if_neg hne]
      exact ⟨rfl, ds', q2⟩
  · cases hm
variable {i : Nat} {y : Str} {py : Pos} {elt tg iter : Expr} {ifs : List Expr} {scope : Scope} {own : List (Str × Nat)} {pos spos : Pos} {mi : ML} {bind : MG} {test : MT} {me : ME} {js : List Nat}
theorem js_setLc (hyl : X.env.scope.names.lookup y = some .local) (hy : X.N[i]? = some y) (hc : X.calm = true) (hN : X.N.Nodup) (hi : PI X tg iter (tIOf X.K mi)) (ok : BlkOk X.N X.env.scope scope own)
    (hg : ∀ (s : Shared) (H : Hp) (C : Addr) (cl : List (Str × Addr)) (fp : List Addr), PG (X.blk s H scope (compEnvC scope cl C X.env) fp) tg (tGOf X.K js bind)) (ht : ∀ (s : Shared) (H : Hp) (C : Addr) (cl : List (Str × Addr)) (fp : List Addr), PTs (X.blk s H scope (compEnvC scope cl C X.env) fp) ifs (tTOf X.K test))
    (he : ∀ (s : Shared) (H : Hp) (C : Addr) (cl : List (Str × Addr)) (fp : List Addr), PE (X.blk s H scope (compEnvC scope cl C X.env) fp) elt (tOf X.K me))
    (hsw : swapsWith (.ListComp elt [⟨tg, iter, ifs, 0⟩] scope pos) (some (.Name y py)) spos.line X.env = pure true) (hjs : ∀ j ∈ js, j ∈ own.map (·.2) := by decide) (hs : ∀ x, foldedSetIterable iter X.env x = pure x := by intro _; rfl) :
    PS X (.Assign [.Name y py] (.ListComp elt [⟨tg, iter, ifs, 0⟩] scope pos) spos) (tSOf X.K (sAsg (mNew (mLc mi bind test me (own.map (·.2)))) (bName i))) :=
  PS.imp (ps_setLc hc hN hy hyl hsw hi ok hg ht he hs) (set_of fun σ H Q h => lc_of hjs σ H Q (new_of σ H Q h))
theorem js_setOwnLc (hyl : X.env.scope.names.lookup y = some .local) (hy : X.N[i]? = some y) (hc : X.calm = true) (hN : X.N.Nodup) (hi : PI X tg iter (tIOf X.K mi)) (ok : BlkOk X.N X.env.scope scope own)
    (hg : ∀ (s : Shared) (H : Hp) (C : Addr) (cl : List (Str × Addr)) (fp : List Addr), PG (X.blk s H scope (compEnvC scope cl C X.env) fp) tg (tGOf X.K js bind)) (ht : ∀ (s : Shared) (H : Hp) (C : Addr) (cl : List (Str × Addr)) (fp : List Addr), PTs (X.blk s H scope (compEnvC scope cl C X.env) fp) ifs (tTOf X.K test))
    (he : ∀ (s : Shared) (H : Hp) (C : Addr) (cl : List (Str × Addr)) (fp : List Addr), PE (X.blk s H scope (compEnvC scope cl C X.env) fp) elt (tOf X.K me))
    (hsw : swapsWith (.ListComp elt [⟨tg, iter, ifs, 0⟩] scope pos) (some (.Name y py)) spos.line X.env = pure true) (hjs : ∀ j ∈ js, j ∈ own.map (·.2) := by decide) (hs : ∀ x, foldedSetIterable iter X.env x = pure x := by intro _; rfl) :
    PS X (.Assign [.Name y py] (.ListComp elt [⟨tg, iter, ifs, 0⟩] scope pos) spos) (tSOf X.K (sAsgOwn i (mLc mi bind test me (own.map (·.2))))) :=
  PS.imp (ps_setLc hc hN hy hyl hsw hi ok hg ht he hs) (setOwn_of fun σ H Q h => lc_of hjs σ H Q h)
end
end PB

set_option maxHeartbeats 4000000
/-! what the pieces do, for simp -/
namespace PB
open PySem PySem.Spec PyProof.Rows L2
section
variable {e : Sg} {a b c : ME} {s t u : MT} {m l : ML} {x y : MS} {d : D} {i j : Nat}
@[simp] theorem ev_C : mC d e = some (d, e) := rfl
@[simp] theorem ev_Bin {f : D → D → Option D} : mBin f a b e = (a e).bind fun r => (b r.2).bind fun q => (f r.1 q.1).map fun z => (z, q.2) := rfl
@[simp] theorem ev_Un {f : D → Option D} : mUn f a e = (a e).bind fun r => (f r.1).map fun z => (z, r.2) := rfl
@[simp] theorem ev_Chain {f g : D → D → Option D} : mChain f g a b c e = (a e).bind fun r => (b r.2).bind fun q => (f r.1 q.1).bind fun z => match z with
  | .bool k => if k = true then (c q.2).bind fun s => (g q.1 s.1).map fun y => (y, s.2) else some (.bool false, q.2)
  | _ => none := rfl
@[simp] theorem ev_AndV : mAndV a b e = (a e).bind fun r => match r.1 with
  | .bool k => if k = true then b r.2 else some (.bool false, r.2)
  | _ => none := rfl
@[simp] theorem ev_OrV : mOrV a b e = (a e).bind fun r => match r.1 with
  | .bool k => if k = true then some (.bool true, r.2) else b r.2
  | _ => none := rfl
@[simp] theorem ev_IfE : mIfE t a b e = (t e).bind fun r => if r.1 = true then a r.2 else b r.2 := rfl
@[simp] theorem ev_Tru : mTru a e = (a e).bind fun r => (truth r.1).map fun b => (b, r.2) := rfl
@[simp] theorem ev_B : mB a e = (a e).bind fun r => (isB r.1).map fun b => (b, r.2) := rfl
@[simp] theorem ev_AndT : mAndT s t e = (s e).bind fun r => if r.1 = true then t r.2 else some (false, r.2) := rfl
@[simp] theorem ev_OrT : mOrT s t e = (s e).bind fun r => if r.1 = true then some (true, r.2) else t r.2 := rfl
@[simp] theorem ev_NotT : mNotT t e = (t e).map fun r => (!r.1, r.2) := rfl
@[simp] theorem ev_Nil : mNil e = some ([], e) := rfl
@[simp] theorem ev_Cons : mCons a m e = (a e).bind fun x => (m x.2).map fun y => (x.1 :: y.1, y.2) := rfl
@[simp] theorem ev_Tup : mTup m e = (m e).bind fun r => if szOk r.1.length = true then some (.tuple r.1, r.2) else none := rfl
@[simp] theorem ev_Sz : mSz m e = (m e).bind fun r => if szOk r.1.length = true then some r else none := rfl
@[simp] theorem ev_New : mNew m e = (m e).map fun r => (.list r.1, r.2) := rfl
@[simp] theorem ev_CB {f : List D → Option D} : mCB f m e = (m e).bind fun r => (f r.1).map fun z => (z, r.2) := rfl
@[simp] theorem ev_Isi {T : String} : mIsi T a e = (a e).bind fun r => (kitB (tyN r.1) T).map fun b => (.bool b, r.2) := rfl
@[simp] theorem ev_Isi2 {S T : String} : mIsi2 S T a e = (a e).bind fun r => (kitB2 (tyN r.1) S T).map fun b => (.bool b, r.2) := rfl
@[simp] theorem ev_Sl {lo hi : MO} : mSl a lo hi e = (a e).bind fun r => (lo r.2).bind fun l => (hi l.2).bind fun u => (dSl r.1 l.1 u.1).map fun z => (z, u.2) := rfl
@[simp] theorem ev_NoPart : mNoPart e = some (none, e) := rfl
@[simp] theorem ev_Part : mPart a e = (a e).bind fun r => match r.1 with
  | .int i => some (some i, r.2)
  | _ => none := rfl
@[simp] theorem ev_Call {n : Nat} {f : Fp} : mCall n f m e = (m e).bind fun r => if r.1.length = n then (f r.1).map fun x => (toD x, r.2) else none := rfl
@[simp] theorem ev_It : mIt a e = (a e).bind fun r => (itemsOf r.1).map fun ds => (ds, r.2) := rfl
@[simp] theorem ev_Zip : mZip a b e = (a e).bind fun r => (b r.2).bind fun q => (zipOf r.1 q.1).map fun z => (z, q.2) := rfl
@[simp] theorem ev_ListOf : mListOf a e = (a e).bind fun r => (seqOf r.1).map fun ds => (ds, r.2) := rfl
@[simp] theorem ev_Yes : mYes e = some (true, e) := rfl
@[simp] theorem ev_Skip : sSkip e = some (.next, e) := rfl
@[simp] theorem ev_Seq : sSeq x y e = (x e).bind fun r => match r.1 with
  | .next => y r.2
  | o => some (o, r.2) := rfl
@[simp] theorem ev_Ret : sRet a e = (a e).map fun r => (.ret (.val r.1), r.2) := rfl
@[simp] theorem ev_RetNew : sRetNew m e = (m e).map fun r => (.ret (.new r.1), r.2) := rfl
@[simp] theorem ev_If : sIf t x y e = (t e).bind fun r => if r.1 = true then x r.2 else y r.2 := rfl
@[simp] theorem ev_Asg {b : MG} : sAsg a b e = (a e).bind fun r => (b r.1 r.2).map fun e' => (.next, e') := rfl
@[simp] theorem ev_Drop : sDrop a e = (a e).map fun r => (.next, r.2) := rfl
@[simp] theorem ev_For {b : MG} : sFor m b x e = (m e).bind fun it => forGo b x it.1 it.2 := rfl
theorem ev_Var (h : e[i]? = some (some (.val d))) : mVar i e = some (d, e) := by
  unfold mVar
  rw [h]
@[simp] theorem ev_Var0 {s : Option Sl} {r : Sg} : mVar 0 (some (.val d) :: r) = some (d, some (.val d) :: r) := rfl
@[simp] theorem ev_Var1 {s : Option Sl} {r : Sg} : mVar 1 (s :: some (.val d) :: r) = some (d, s :: some (.val d) :: r) := rfl
@[simp] theorem ev_Var2 {s s1 : Option Sl} {r : Sg} : mVar 2 (s :: s1 :: some (.val d) :: r) = some (d, s :: s1 :: some (.val d) :: r) := rfl
@[simp] theorem ev_Var3 {s s1 s2 : Option Sl} {r : Sg} : mVar 3 (s :: s1 :: s2 :: some (.val d) :: r) = some (d, s :: s1 :: s2 :: some (.val d) :: r) := rfl
@[simp] theorem ev_Var4 {s s1 s2 s3 : Option Sl} {r : Sg} : mVar 4 (s :: s1 :: s2 :: s3 :: some (.val d) :: r) = some (d, s :: s1 :: s2 :: s3 :: some (.val d) :: r) := rfl
@[simp] theorem ev_Var5 {s s1 s2 s3 s4 : Option Sl} {r : Sg} : mVar 5 (s :: s1 :: s2 :: s3 :: s4 :: some (.val d) :: r) = some (d, s :: s1 :: s2 :: s3 :: s4 :: some (.val d) :: r) := rfl
@[simp] theorem ev_Var6 {s s1 s2 s3 s4 s5 : Option Sl} {r : Sg} : mVar 6 (s :: s1 :: s2 :: s3 :: s4 :: s5 :: some (.val d) :: r) = some (d, s :: s1 :: s2 :: s3 :: s4 :: s5 :: some (.val d) :: r) := rfl
@[simp] theorem dLe_int {i j : Int} : dLe (.int i) (.int j) = some (.bool (decide (i ≤ j))) := rfl
@[simp] theorem dLt_int {i j : Int} : dLt (.int i) (.int j) = some (.bool (decide (i < j))) := rfl
@[simp] theorem dGe_int {i j : Int} : dGe (.int i) (.int j) = some (.bool (decide (j ≤ i))) := rfl
@[simp] theorem dGt_int {i j : Int} : dGt (.int i) (.int j) = some (.bool (decide (j < i))) := rfl
@[simp] theorem dLe_str {i j : Str} : dLe (.str i) (.str j) = some (.bool (!sLt j i)) := rfl
@[simp] theorem dLt_str {i j : Str} : dLt (.str i) (.str j) = some (.bool (sLt i j)) := rfl
@[simp] theorem dGe_str {i j : Str} : dGe (.str i) (.str j) = some (.bool (!sLt i j)) := rfl
@[simp] theorem dGt_str {i j : Str} : dGt (.str i) (.str j) = some (.bool (sLt j i)) := rfl
@[simp] theorem dAdd_int {i j : Int} : dAdd (.int i) (.int j) = some (.int (i + j)) := rfl
@[simp] theorem dSub_int {i j : Int} : dSub (.int i) (.int j) = some (.int (i - j)) := rfl
@[simp] theorem dNot_b {k : Bool} : dNot (.bool k) = some (.bool (!k)) := rfl
@[simp] theorem dNeg_i {k : Int} : dNeg (.int k) = some (.int (-k)) := rfl
@[simp] theorem isB_b {k : Bool} : isB (.bool k) = some k := rfl
@[simp] theorem truth_b {k : Bool} : truth (.bool k) = some k := rfl
@[simp] theorem dIs_n : dIs d .none = some (.bool (isNone d)) := by cases d <;> rfl
@[simp] theorem dIsNot_n : dIsNot d .none = some (.bool (!isNone d)) := by cases d <;> rfl
@[simp] theorem fLen_t {ds : List D} : fLen [.tuple ds] = some (.int ds.length) := rfl
@[simp] theorem fLen_l {ds : List D} : fLen [.list ds] = some (.int ds.length) := rfl
@[simp] theorem fTuple_l {ds : List D} : fTuple [.list ds] = some (.tuple ds) := rfl
@[simp] theorem fTuple_t {ds : List D} : fTuple [.tuple ds] = some (.tuple ds) := rfl
@[simp] theorem items_t {ds : List D} : itemsOf (.tuple ds) = some ds := rfl
@[simp] theorem items_l {ds : List D} : itemsOf (.list ds) = some ds := rfl
@[simp] theorem items_s {s : Str} : itemsOf (.str s) = some (signs s) := rfl
@[simp] theorem seqOf_t {ds : List D} : seqOf (.tuple ds) = some ds := rfl
@[simp] theorem seqOf_l {ds : List D} : seqOf (.list ds) = some ds := rfl
@[simp] theorem toD_v : toD (.val d) = d := rfl
@[simp] theorem toD_n {ds : List D} : toD (.new ds) = .list ds := rfl
@[simp] theorem dIx_t {ds : List D} {i : Int} : dIx (.tuple ds) (.int i) = atI ds i := rfl
@[simp] theorem dIx_l {ds : List D} {i : Int} : dIx (.list ds) (.int i) = atI ds i := rfl
@[simp] theorem at0 {r : List D} : atI (d :: r) 0 = some d := by
  have : atI (d :: r) ((0 : Nat) : Int) = some d := atI_nat rfl
  exact this
theorem at1 {x : D} {r : List D} : atI (x :: d :: r) 1 = some d := by
  have : atI (x :: d :: r) ((1 : Nat) : Int) = some d := atI_nat rfl
  exact this
@[simp] theorem at1' {x : D} {r : List D} : atI (x :: d :: r) 1 = some d := at1
@[simp] theorem szOk0 : szOk 0 = true := rfl
theorem runP_def {n : Nat} {M : MS} {ds : List D} : runP n M ds = match M (startE n ds) with
  | some (.ret r, _) => some r
  | some (.next, _) => some (.val .none)
  | _ => none := rfl
end
@[simp] theorem kb_NoneType_int : kitB "NoneType" "int" = some false := by decide +kernel
@[simp] theorem kb_bool_int : kitB "bool" "int" = some true := by decide +kernel
@[simp] theorem kb_int_int : kitB "int" "int" = some true := by decide +kernel
@[simp] theorem kb_str_int : kitB "str" "int" = some false := by decide +kernel
@[simp] theorem kb_list_int : kitB "list" "int" = some false := by decide +kernel
@[simp] theorem kb_tuple_int : kitB "tuple" "int" = some false := by decide +kernel
@[simp] theorem kb_NoneType_bool : kitB "NoneType" "bool" = some false := by decide +kernel
@[simp] theorem kb_bool_bool : kitB "bool" "bool" = some true := by decide +kernel
@[simp] theorem kb_int_bool : kitB "int" "bool" = some false := by decide +kernel
@[simp] theorem kb_str_bool : kitB "str" "bool" = some false := by decide +kernel
@[simp] theorem kb_list_bool : kitB "list" "bool" = some false := by decide +kernel
@[simp] theorem kb_tuple_bool : kitB "tuple" "bool" = some false := by decide +kernel
@[simp] theorem kb_NoneType_str : kitB "NoneType" "str" = some false := by decide +kernel
@[simp] theorem kb_bool_str : kitB "bool" "str" = some false := by decide +kernel
@[simp] theorem kb_int_str : kitB "int" "str" = some false := by decide +kernel
@[simp] theorem kb_str_str : kitB "str" "str" = some true := by decide +kernel
@[simp] theorem kb_list_str : kitB "list" "str" = some false := by decide +kernel
@[simp] theorem kb_tuple_str : kitB "tuple" "str" = some false := by decide +kernel
@[simp] theorem kb_NoneType_list : kitB "NoneType" "list" = some false := by decide +kernel
@[simp] theorem kb_bool_list : kitB "bool" "list" = some false := by decide +kernel
@[simp] theorem kb_int_list : kitB "int" "list" = some false := by decide +kernel
@[simp] theorem kb_str_list : kitB "str" "list" = some false := by decide +kernel
@[simp] theorem kb_list_list : kitB "list" "list" = some true := by decide +kernel
@[simp] theorem kb_tuple_list : kitB "tuple" "list" = some false := by decide +kernel
@[simp] theorem kb_NoneType_tuple : kitB "NoneType" "tuple" = some false := by decide +kernel
@[simp] theorem kb_bool_tuple : kitB "bool" "tuple" = some false := by decide +kernel
@[simp] theorem kb_int_tuple : kitB "int" "tuple" = some false := by decide +kernel
@[simp] theorem kb_str_tuple : kitB "str" "tuple" = some false := by decide +kernel
@[simp] theorem kb_list_tuple : kitB "list" "tuple" = some false := by decide +kernel
@[simp] theorem kb_tuple_tuple : kitB "tuple" "tuple" = some true := by decide +kernel
@[simp] theorem tyN_bool {x : Bool} : tyN (.bool x) = "bool" := rfl
@[simp] theorem tyN_int {x : Int} : tyN (.int x) = "int" := rfl
@[simp] theorem tyN_str {x : Str} : tyN (.str x) = "str" := rfl
@[simp] theorem tyN_list {x : List D} : tyN (.list x) = "list" := rfl
@[simp] theorem tyN_tuple {x : List D} : tyN (.tuple x) = "tuple" := rfl
@[simp] theorem tyN_none : tyN .none = "NoneType" := rfl
end PB

set_option maxHeartbeats 4000000
/-! it comes to something of which P holds -/
namespace PB
open PySem PySem.Spec PyProof.Rows L2
def Ens {α : Type} (m : Sg → Option (α × Sg)) (e : Sg) (P : α → Sg → Prop) : Prop := ∃ a e', m e = some (a, e') ∧ P a e'
section
variable {e : Sg} {a b c : ME} {s t u : MT} {m l : ML} {x y : MS} {d : D} {i j : Nat} {P : D → Sg → Prop} {PT : Bool → Sg → Prop} {PL : List D → Sg → Prop} {PS : Out → Sg → Prop}
theorem Ens.imp {α : Type} {m : Sg → Option (α × Sg)} {P Q : α → Sg → Prop} (h : Ens m e P) (k : ∀ a e', P a e' → Q a e') : Ens m e Q := by
  obtain ⟨a, e', h1, h2⟩ := h
  exact ⟨a, e', h1, k a e' h2⟩
theorem en_C (h : P d e) : Ens (mC d) e P := ⟨d, e, rfl, h⟩
theorem en_Var (i : Nat) (hi : e[i]? = some (some (.val d))) (h : P d e) : Ens (mVar i) e P := ⟨d, e, ev_Var hi, h⟩
theorem en_Froz (i : Nat) {ds : List D} (hi : e[i]? = some (some (.own false ds))) (h : P (.list ds) (e.set i (some (.val (.list ds))))) : Ens (mVar i) e P := ⟨_, _, by unfold mVar; rw [hi], h⟩
theorem en_Bin {f : D → D → Option D} (h : Ens a e fun x e1 => Ens b e1 fun y e2 => ∃ z, f x y = some z ∧ P z e2) : Ens (mBin f a b) e P := by
  obtain ⟨x, e1, h1, y, e2, h2, z, h3, h4⟩ := h
  exact ⟨z, e2, by simp [h1, h2, h3], h4⟩
theorem en_Un {f : D → Option D} (h : Ens a e fun x e1 => ∃ z, f x = some z ∧ P z e1) : Ens (mUn f a) e P := by
  obtain ⟨x, e1, h1, z, h3, h4⟩ := h
  exact ⟨z, e1, by simp [h1, h3], h4⟩
theorem en_B (h : Ens a e fun x e1 => ∃ k, x = .bool k ∧ PT k e1) : Ens (mB a) e PT := by
  obtain ⟨x, e1, h1, z, rfl, h4⟩ := h
  exact ⟨z, e1, by simp [h1], h4⟩
theorem en_Tru (h : Ens a e fun x e1 => ∃ k, truth x = some k ∧ PT k e1) : Ens (mTru a) e PT := by
  obtain ⟨x, e1, h1, z, h3, h4⟩ := h
  exact ⟨z, e1, by simp [h1, h3], h4⟩
theorem en_AndT (h : Ens s e fun k e1 => if k = true then Ens t e1 PT else PT false e1) : Ens (mAndT s t) e PT := by
  obtain ⟨k, e1, h1, h2⟩ := h
  cases k with
  | true =>
    obtain ⟨k2, e2, h3, h4⟩ := h2
    exact ⟨k2, e2, by simp [h1, h3], h4⟩
  | false => exact ⟨false, e1, by simp [h1], h2⟩
theorem en_NotT (h : Ens t e fun k e1 => PT (!k) e1) : Ens (mNotT t) e PT := by
  obtain ⟨k, e1, h1, h2⟩ := h
  exact ⟨!k, e1, by simp [h1], h2⟩
theorem en_Nil (h : PL [] e) : Ens mNil e PL := ⟨[], e, rfl, h⟩
theorem en_Cons (h : Ens a e fun x e1 => Ens m e1 fun r e2 => PL (x :: r) e2) : Ens (mCons a m) e PL := by
  obtain ⟨x, e1, h1, r, e2, h2, h3⟩ := h
  exact ⟨x :: r, e2, by simp [h1, h2], h3⟩
theorem en_Tup (h : Ens m e fun r e1 => r.length ≤ 100000 ∧ P (.tuple r) e1) : Ens (mTup m) e P := by
  obtain ⟨r, e1, h1, h2, h3⟩ := h
  have hz : szOk r.length = true := decide_eq_true h2
  exact ⟨.tuple r, e1, by simp [h1, hz], h3⟩
theorem en_Sz (h : Ens m e fun r e1 => r.length ≤ 100000 ∧ PL r e1) : Ens (mSz m) e PL := by
  obtain ⟨r, e1, h1, h2, h3⟩ := h
  have hz : szOk r.length = true := decide_eq_true h2
  exact ⟨r, e1, by simp [h1, hz], h3⟩
theorem en_New (h : Ens m e fun r e1 => P (.list r) e1) : Ens (mNew m) e P := by
  obtain ⟨r, e1, h1, h3⟩ := h
  exact ⟨.list r, e1, by simp [h1], h3⟩
theorem en_CB {f : List D → Option D} (h : Ens m e fun r e1 => ∃ z, f r = some z ∧ P z e1) : Ens (mCB f m) e P := by
  obtain ⟨r, e1, h1, z, h2, h3⟩ := h
  exact ⟨z, e1, by simp [h1, h2], h3⟩
theorem en_IfE (h : Ens t e fun k e1 => if k = true then Ens a e1 P else Ens b e1 P) : Ens (mIfE t a b) e P := by
  obtain ⟨k, e1, h1, h2⟩ := h
  cases k with
  | true =>
    obtain ⟨z, e2, h3, h4⟩ := h2
    exact ⟨z, e2, by simp [h1, h3], h4⟩
  | false =>
    obtain ⟨z, e2, h3, h4⟩ := h2
    exact ⟨z, e2, by simp [h1, h3], h4⟩
theorem en_Sl {lo hi : MO} (h : Ens a e fun r e1 => Ens lo e1 fun l e2 => Ens hi e2 fun u e3 => ∃ z, dSl r l u = some z ∧ P z e3) : Ens (mSl a lo hi) e P := by
  obtain ⟨r, e1, h1, l, e2, h2, u, e3, h3, z, h4, h5⟩ := h
  exact ⟨z, e3, by simp [h1, h2, h3, h4], h5⟩
theorem en_NoPart {PO : Option Int → Sg → Prop} (h : PO none e) : Ens mNoPart e PO := ⟨none, e, rfl, h⟩
theorem en_Part {PO : Option Int → Sg → Prop} (h : Ens a e fun r e1 => ∃ k, r = .int k ∧ PO (some k) e1) : Ens (mPart a) e PO := by
  obtain ⟨r, e1, h1, k, rfl, h2⟩ := h
  exact ⟨some k, e1, by simp [h1], h2⟩
theorem en_Call {n : Nat} {f : Fp} (h : Ens m e fun ds e1 => ds.length = n ∧ ∃ r, f ds = some r ∧ P (toD r) e1) : Ens (mCall n f m) e P := by
  obtain ⟨ds, e1, h1, h2, r, h3, h4⟩ := h
  exact ⟨toD r, e1, by simp [h1, h2, h3], h4⟩
theorem en_CallN {n : Nat} {f : Fp} (h : Ens m e fun ds e1 => ds.length = n ∧ ∃ r, f ds = some (.new r) ∧ PL r e1) : Ens (mCallN n f m) e PL := by
  obtain ⟨ds, e1, h1, h2, r, h3, h4⟩ := h
  exact ⟨r, e1, by simp [mCallN, h1, h2, h3], h4⟩
theorem en_CallK (i : Nat) {n : Nat} {f : Fk} {b0 : Bool} {dd : List D} (h0 : e[i]? = some (some (.own b0 dd))) (h : Ens m e fun ds e1 => ds.length + 1 = n ∧ ∃ b ds0 r ds1, e1[i]? = some (some (.own b ds0)) ∧ f ds0 ds = some (r, ds1) ∧ P (toD r) (e1.set i (some (.own b ds1)))) :
    Ens (mCallK i n f m) e P := by
  obtain ⟨ds, e1, h1, h2, b, ds0, r, ds1, h3, h4, h5⟩ := h
  refine ⟨toD r, _, ?_, h5⟩
  unfold mCallK
  rw [h0]
  simp [h1, h3, h2, h4]
theorem en_It (h : Ens a e fun r e1 => ∃ ds, itemsOf r = some ds ∧ PL ds e1) : Ens (mIt a) e PL := by
  obtain ⟨r, e1, h1, ds, h2, h3⟩ := h
  exact ⟨ds, e1, by simp [h1, h2], h3⟩
theorem en_Range1 (h : Ens a e fun r e1 => ∃ n : Int, r = .int n ∧ n ≤ 100000 ∧ -100000 ≤ n ∧ PL (rangeD 0 n.toNat) e1) : Ens (mRange1 a) e PL := by
  obtain ⟨r, e1, h1, n, rfl, h2, h3, h4⟩ := h
  exact ⟨_, e1, by simp [mRange1, h1, h2, h3], h4⟩
theorem en_ListOf (h : Ens a e fun r e1 => ∃ ds, seqOf r = some ds ∧ PL ds e1) : Ens (mListOf a) e PL := by
  obtain ⟨r, e1, h1, ds, h2, h3⟩ := h
  exact ⟨ds, e1, by simp [h1, h2], h3⟩
theorem en_Yes (h : PT true e) : Ens mYes e PT := ⟨true, e, rfl, h⟩
theorem en_IxOwn (i : Nat) {b0 : Bool} {dd : List D} (h0 : e[i]? = some (some (.own b0 dd))) (h : Ens a e fun r e1 => ∃ (k : Int) (b : Bool) (ds : List D) (z : D), r = .int k ∧ e1[i]? = some (some (.own b ds)) ∧ atI ds k = some z ∧ P z e1) : Ens (mIxOwn i a) e P := by
  obtain ⟨r, e1, h1, k, b, ds, z, rfl, h2, h3, h4⟩ := h
  refine ⟨z, e1, ?_, h4⟩
  unfold mIxOwn
  rw [h0]
  simp [h1, h2, h3]
theorem en_LenOwn (i : Nat) {b0 : Bool} {ds : List D} (h0 : e[i]? = some (some (.own b0 ds))) (h : P (.int ds.length) e) : Ens (mLenOwn i) e P := ⟨_, e, by unfold mLenOwn; rw [h0], h⟩
theorem en_Append (i : Nat) {b0 : Bool} {dd : List D} (h0 : e[i]? = some (some (.own b0 dd))) (h : Ens a e fun r e1 => ∃ (b : Bool) (ds : List D), e1[i]? = some (some (.own b ds)) ∧ ds.length ≤ 100000 ∧ P .none (e1.set i (some (.own b (ds ++ [r]))))) : Ens (mAppend i a) e P := by
  obtain ⟨r, e1, h1, b, ds, h2, h3, h4⟩ := h
  have hz : szOk ds.length = true := decide_eq_true h3
  refine ⟨.none, _, ?_, h4⟩
  unfold mAppend
  rw [h0]
  simp [h1, h2, hz]
/-! statements -/
theorem es_Skip (h : PS .next e) : Ens sSkip e PS := ⟨.next, e, rfl, h⟩
theorem es_Seq (h : Ens x e fun o e1 => match o with | .next => Ens y e1 PS | o => PS o e1) : Ens (sSeq x y) e PS := by
  obtain ⟨o, e1, h1, h2⟩ := h
  cases o with
  | next =>
    obtain ⟨o2, e2, h3, h4⟩ := h2
    exact ⟨o2, e2, by simp [h1, h3], h4⟩
  | brk => exact ⟨.brk, e1, by simp [h1], h2⟩
  | cont => exact ⟨.cont, e1, by simp [h1], h2⟩
  | ret r => exact ⟨.ret r, e1, by simp [h1], h2⟩
theorem es_Ret (h : Ens a e fun z e1 => PS (.ret (.val z)) e1) : Ens (sRet a) e PS := by
  obtain ⟨z, e1, h1, h2⟩ := h
  exact ⟨_, e1, by simp [h1], h2⟩
theorem es_If (h : Ens t e fun k e1 => if k = true then Ens x e1 PS else Ens y e1 PS) : Ens (sIf t x y) e PS := by
  obtain ⟨k, e1, h1, h2⟩ := h
  cases k with
  | true =>
    obtain ⟨z, e2, h3, h4⟩ := h2
    exact ⟨z, e2, by simp [h1, h3], h4⟩
  | false =>
    obtain ⟨z, e2, h3, h4⟩ := h2
    exact ⟨z, e2, by simp [h1, h3], h4⟩
theorem es_Asg {g : MG} (h : Ens a e fun z e1 => ∃ e2, g z e1 = some e2 ∧ PS .next e2) : Ens (sAsg a g) e PS := by
  obtain ⟨z, e1, h1, e2, h2, h3⟩ := h
  exact ⟨.next, e2, by simp [h1, h2], h3⟩
theorem es_Own (i : Nat) (h : Ens m e fun r e1 => i < e1.length ∧ isPar e1[i]? = false ∧ PS .next (e1.set i (some (.own false r)))) : Ens (sAsgOwn i m) e PS := by
  obtain ⟨r, e1, h1, h2, h3, h4⟩ := h
  refine ⟨.next, _, ?_, h4⟩
  unfold sAsgOwn
  rw [h1]
  simp only [Option.bind_some]
  rw [if_pos (by rw [h3, decide_eq_true h2]; rfl)]
theorem es_Drop (h : Ens a e fun _ e1 => PS .next e1) : Ens (sDrop a) e PS := by
  obtain ⟨z, e1, h1, h2⟩ := h
  exact ⟨.next, e1, by simp [h1], h2⟩
theorem es_SetOwn (i : Nat) (h : Ens a e fun v e1 => ∃ b0 dd, e1[i]? = some (some (.own b0 dd)) ∧ Ens b e1 fun r e2 => ∃ (k : Int) (c : Bool) (ds : List D) (j : Nat), r = .int k ∧ e2[i]? = some (some (.own c ds)) ∧ ixN ds.length k = some j ∧ PS .next (e2.set i (some (.own c (ds.set j v))))) :
    Ens (sSetOwn i b a) e PS := by
  obtain ⟨v, e1, h1, b0, dd, h2, r, e2, h3, k, c, ds, j, rfl, h4, h5, h6⟩ := h
  refine ⟨.next, _, ?_, h6⟩
  simp [sSetOwn, h1, h2, h3, h4, h5]
theorem for_inv {g : MG} {body : MS} (I : Nat → Sg → Prop) : ∀ (items : List D) (k : Nat) (e : Sg), I k e → (∀ (i : Nat) (d : D) (e : Sg), items[i]? = some d → I (k + i) e → ∃ e', g d e = some e' ∧ Ens body e' fun o e2 => o = .next ∧ I (k + i + 1) e2) →
    ∃ e', forGo g body items e = some (.next, e') ∧ I (k + items.length) e'
  | [], k, e, h, _ => ⟨e, rfl, h⟩
  | d :: ds, k, e, h, hs => by
    obtain ⟨e1, h1, o, e2, h2, rfl, h3⟩ := hs 0 d e rfl h
    obtain ⟨e3, h4, h5⟩ := for_inv I ds (k + 1) e2 h3 fun i x e hx hI => by
      have := hs (i + 1) x e hx (by rw [show k + (i + 1) = k + 1 + i by omega]; exact hI)
      rw [show k + (i + 1) + 1 = k + 1 + i + 1 by omega] at this
      exact this
    refine ⟨e3, ?_, by rw [List.length_cons, show k + (ds.length + 1) = k + 1 + ds.length by omega]; exact h5⟩
    rw [forGo, h1]
    simp only [Option.bind_some]
    rw [h2]
    simp only [Option.bind_some]
    exact h4
theorem es_For {g : MG} {body : MS} (h : Ens m e fun items e1 => ∃ I : Nat → Sg → Prop, I 0 e1 ∧ (∀ (i : Nat) (d : D) (e : Sg), items[i]? = some d → I i e → ∃ e', g d e = some e' ∧ Ens body e' fun o e2 => o = .next ∧ I (i + 1) e2) ∧ ∀ e, I items.length e → PS .next e) : Ens (sFor m g body) e PS := by
  obtain ⟨items, e1, h1, I, h2, h3, h4⟩ := h
  obtain ⟨e2, h5, h6⟩ := for_inv I items 0 e1 h2 fun i d e hd hI => by
    rw [Nat.zero_add] at hI ⊢
    exact h3 i d e hd hI
  rw [Nat.zero_add] at h6
  exact ⟨.next, e2, by simp [h1, h5], h4 e2 h6⟩
theorem lc_inv {g : MG} {vs : List Nat} (I : Nat → Sg → List D → Prop) : ∀ (items : List D) (k : Nat) (e : Sg) (acc : List D), I k e acc → (∀ (i : Nat) (d : D) (e : Sg) (acc : List D), items[i]? = some d → I (k + i) e acc → ∃ e', g d e = some e' ∧ Ens t e' fun q e2 =>
      if q = true then Ens a e2 fun y e3 => ∃ e4, wipeC e3 vs = some e4 ∧ I (k + i + 1) e4 (acc ++ [y]) else ∃ e4, wipeC e2 vs = some e4 ∧ I (k + i + 1) e4 acc) →
    ∃ out e', lcGo g t a vs items e = some (out, e') ∧ I (k + items.length) e' (acc ++ out)
  | [], k, e, acc, h, _ => ⟨[], e, rfl, by rw [List.append_nil]; exact h⟩
  | d :: ds, k, e, acc, h, hs => by
    obtain ⟨e1, h1, q, e2, h2, h3⟩ := hs 0 d e acc rfl h
    have again : ∀ (e4 : Sg) (acc' : List D), I (k + 1) e4 acc' → ∃ out e', lcGo g t a vs ds e4 = some (out, e') ∧ I (k + 1 + ds.length) e' (acc' ++ out) := fun e4 acc' hI => lc_inv I ds (k + 1) e4 acc' hI fun i x e acc hx hI => by
      have := hs (i + 1) x e acc hx (by rw [show k + (i + 1) = k + 1 + i by omega]; exact hI)
      rw [show k + (i + 1) + 1 = k + 1 + i + 1 by omega] at this
      exact this
    cases q with
    | true =>
      obtain ⟨y, e3, h4, e4, h5, h6⟩ := h3
      obtain ⟨out, e5, h7, h8⟩ := again e4 (acc ++ [y]) h6
      refine ⟨y :: out, e5, ?_, by rw [List.length_cons, show k + (ds.length + 1) = k + 1 + ds.length by omega]; rw [List.append_assoc] at h8; exact h8⟩
      rw [lcGo, h1]
      simp only [Option.bind_some]
      rw [h2]
      simp [h4, h5, h7]
    | false =>
      obtain ⟨e4, h5, h6⟩ := h3
      obtain ⟨out, e5, h7, h8⟩ := again e4 acc h6
      refine ⟨out, e5, ?_, by rw [List.length_cons, show k + (ds.length + 1) = k + 1 + ds.length by omega]; exact h8⟩
      rw [lcGo, h1]
      simp only [Option.bind_some]
      rw [h2]
      simp [h5, h7]
theorem en_Lc {g : MG} {vs : List Nat} (h : Ens m e fun items e1 => items.length ≤ 100000 ∧ ∃ e0, wipeC e1 vs = some e0 ∧ ∃ I : Nat → Sg → List D → Prop, I 0 e0 [] ∧ (∀ (i : Nat) (d : D) (e : Sg) (acc : List D), items[i]? = some d → I i e acc → ∃ e', g d e = some e' ∧ Ens t e' fun q e2 =>
      if q = true then Ens a e2 fun y e3 => ∃ e4, wipeC e3 vs = some e4 ∧ I (i + 1) e4 (acc ++ [y]) else ∃ e4, wipeC e2 vs = some e4 ∧ I (i + 1) e4 acc) ∧ ∀ e acc, I items.length e acc → PL acc (restore e1 e vs)) : Ens (mLc m g t a vs) e PL := by
  obtain ⟨items, e1, h1, hz, e0, h0, I, h2, h3, h4⟩ := h
  obtain ⟨out, e2, h5, h6⟩ := lc_inv I items 0 e0 [] h2 fun i d e acc hd hI => by
    rw [Nat.zero_add] at hI ⊢
    exact h3 i d e acc hd hI
  rw [Nat.zero_add, List.nil_append] at h6
  refine ⟨out, _, ?_, h4 e2 out h6⟩
  unfold mLc
  have hz' : szOk items.length = true := decide_eq_true hz
  simp [h1, hz', h0, h5]
end
theorem runK_ens {n : Nat} {M : MS} {ds0 ds : List D} {R : Rt → List D → Prop} (h : Ens M (startK n ds0 ds) fun o e => ∃ ds1, e[0]? = some (some (.own true ds1)) ∧ ∃ r, o = .ret r ∧ R r ds1) : ∃ r ds1, runK n M ds0 ds = some (r, ds1) ∧ R r ds1 := by
  obtain ⟨o, e, h1, ds1, h2, r, rfl, h3⟩ := h
  refine ⟨r, ds1, ?_, h3⟩
  unfold runK
  rw [h1]
  simp [h2]
theorem runP_ens {n : Nat} {M : MS} {ds : List D} {R : Rt → Prop} (h : Ens M (startE n ds) fun o _ => ∃ r, o = .ret r ∧ R r) : ∃ r, runP n M ds = some r ∧ R r := by
  obtain ⟨o, e, h1, r, rfl, h3⟩ := h
  exact ⟨r, by rw [runP_def, h1], h3⟩
end PB

set_option maxHeartbeats 4000000
namespace PB
open PySem PySem.Spec PyProof.Rows L2
def M_is_whole : MS :=
    (sRet (mAndV (mIsi "int" (mVar 0)) (mUn dNot (mIsi "bool" (mVar 0)))))
def f_is_whole : Fp := runP 1 M_is_whole

def M_is_name : MS :=
    (sSeq (sIf (mOrT (mNotT (mTru (mIsi "str" (mVar 0)))) (mNotT (mB (mChain dLe dLe (mC (.int 1)) (mCB fLen (mCons (mVar 0) mNil)) (mC (.int 8)))))) (sRet (mC (.bool false))) sSkip)
    (sRet (mCB fAll (mCons (mNew (mLc (mIt (mVar 0)) (bName 1) mYes (mChain dLe dLe (mC (.str "a")) (mVar 1) (mC (.str "z"))) [1])) mNil))))
def f_is_name : Fp := runP 2 M_is_name

def M_is_tuple : MS :=
    (sRet (mAndV (mIsi "tuple" (mVar 0)) (mChain dLe dLe (mVar 1) (mCB fLen (mCons (mVar 0) mNil)) (mVar 2))))
def f_is_tuple : Fp := runP 3 M_is_tuple

def M_is_pair : MS :=
    (sRet (mAndV (mIsi "tuple" (mVar 0)) (mBin dEq (mCB fLen (mCons (mVar 0) mNil)) (mC (.int 2)))))
def f_is_pair : Fp := runP 1 M_is_pair

def M_rises : MS :=
    (sRet (mCB fAll (mCons (mNew (mLc (mZip (mVar 0) (mSl (mVar 0) (mPart (mC (.int 1))) mNoPart)) (bTup 2 (bCons (bName 1) (bCons (bName 2) bNil))) mYes (mBin dLt (mVar 1) (mVar 2)) [1, 2])) mNil)))
def f_rises : Fp := runP 3 M_rises

def M_law_deck : MS :=
    (sSeq (sIf (mB (mBin dGe (mVar 0) (mBin dPow (mC (.int 10)) (mC (.int 18))))) (sRetNew (mSz (mCons (mBin dSub (mVar 0) (mBin dPow (mC (.int 10)) (mC (.int 18)))) (mCons (mBin dMod (mVar 0) (mC (.int 2147483579))) (mCons (mVar 1) mNil))))) sSkip)
    (sRetNew (mSz (mCons (mC (.int 0)) (mCons (mBin dMod (mVar 0) (mC (.int 2147483579))) (mCons (mVar 1) mNil))))))
def f_law_deck : Fp := runP 2 M_law_deck

def M_law_pick : MS :=
    (sSeq (sIf (mB (mBin dGt (mIxOwn 0 (mC (.int 0))) (mC (.int 1)))) (sSeq (sAsg (mBin dMod (mIxOwn 0 (mC (.int 0))) (mVar 1)) (bName 3))
    (sSeq (sSetOwn 0 (mC (.int 0)) (mBin dFdiv (mIxOwn 0 (mC (.int 0))) (mVar 1)))
    (sRet (mVar 3)))) sSkip)
    (sSeq (sSetOwn 0 (mC (.int 2)) (mBin dAdd (mIxOwn 0 (mC (.int 2))) (mC (.int 1))))
    (sSeq (sAsg (mBin dMod (mBin dPow (mBin dAdd (mIxOwn 0 (mC (.int 1))) (mBin dMul (mC (.int 15485867)) (mIxOwn 0 (mC (.int 2))))) (mC (.int 5))) (mC (.int 2147483647))) (bName 2))
    (sSeq (sAsg (mBin dFdiv (mBin dMod (mBin dPow (mBin dAdd (mVar 2) (mBin dMul (mC (.int 7919)) (mIxOwn 0 (mC (.int 2))))) (mC (.int 3))) (mC (.int 2147483629))) (mC (.int 32))) (bName 3))
    (sRet (mBin dMod (mVar 3) (mVar 1)))))))
def f_law_pick : Fk := runK 4 M_law_pick

def M_law_whole : MS :=
    (sRet (mAndV (mIsi "int" (mVar 0)) (mUn dNot (mIsi "bool" (mVar 0)))))
def f_law_whole : Fp := runP 1 M_law_whole

def M_law_sort : MS :=
    (sSeq (sIf (mTru (mIsi "bool" (mVar 0))) (sRet (mC (.int 1))) sSkip)
    (sSeq (sIf (mTru (mIsi "int" (mVar 0))) (sRet (mC (.int 2))) sSkip)
    (sSeq (sIf (mTru (mIsi "str" (mVar 0))) (sRet (mC (.int 3))) sSkip)
    (sSeq (sIf (mTru (mIsi "list" (mVar 0))) (sRet (mC (.int 4))) sSkip)
    (sRet (mIfE (mTru (mIsi "tuple" (mVar 0))) (mC (.int 5)) (mC (.int 6))))))))
def f_law_sort : Fp := runP 1 M_law_sort

def M_law_is_name : MS :=
    (sSeq (sIf (mOrT (mNotT (mTru (mIsi "str" (mVar 0)))) (mNotT (mB (mChain dLe dLe (mC (.int 1)) (mCB fLen (mCons (mVar 0) mNil)) (mC (.int 8)))))) (sRet (mC (.bool false))) sSkip)
    (sRet (mBin dEq (mNew (mLc (mIt (mVar 0)) (bName 1) (mNotT (mB (mChain dLe dLe (mC (.str "a")) (mVar 1) (mC (.str "z"))))) (mVar 1) [1])) (mNew (mSz mNil)))))
def f_law_is_name : Fp := runP 2 M_law_is_name

def M_law_rises : MS :=
    (sRet (mBin dEq (mNew (mLc (mRange2 (mC (.int 1)) (mCB fLen (mCons (mVar 0) mNil))) (bName 1) (mB (mBin dGe (mBin dIx (mVar 0) (mBin dSub (mVar 1) (mC (.int 1)))) (mBin dIx (mVar 0) (mVar 1)))) (mVar 1) [1])) (mNew (mSz mNil))))
def f_law_rises : Fp := runP 2 M_law_rises

def M_law_are_pairs : MS :=
    (sSeq (sIf (mOrT (mNotT (mTru (mIsi "tuple" (mVar 0)))) (mB (mBin dGt (mCB fLen (mCons (mVar 0) mNil)) (mVar 1)))) (sRet (mC (.bool false))) sSkip)
    (sRet (mBin dEq (mNew (mLc (mIt (mVar 0)) (bName 2) (mOrT (mNotT (mTru (mIsi "tuple" (mVar 2)))) (mB (mBin dNe (mCB fLen (mCons (mVar 2) mNil)) (mC (.int 2))))) (mVar 2) [2])) (mNew (mSz mNil)))))
def f_law_are_pairs : Fp := runP 3 M_law_are_pairs

def M_is_worth : MS :=
    (sSeq (sIf (mTru (mCall 1 f_is_whole (mCons (mVar 0) mNil))) (sRet (mChain dLe dLe (mUn dNeg (mC (.int 1000000))) (mVar 0) (mC (.int 1000000)))) sSkip)
    (sRet (mCall 1 f_is_name (mCons (mVar 0) mNil))))
def f_is_worth : Fp := runP 1 M_is_worth

def M_are_columns : MS :=
    (sSeq (sIf (mNotT (mTru (mCall 3 f_is_tuple (mCons (mVar 0) (mCons (mC (.int 1)) (mCons (mC (.int 5)) mNil)))))) (sRet (mC (.bool false))) sSkip)
    (sRet (mAndV (mCB fAll (mCons (mNew (mLc (mIt (mVar 0)) (bName 1) mYes (mCall 1 f_is_name (mCons (mVar 1) mNil)) [1])) mNil)) (mCall 1 f_rises (mCons (mVar 0) mNil)))))
def f_are_columns : Fp := runP 2 M_are_columns

def M_is_id : MS :=
    (sRet (mAndV (mCall 1 f_is_whole (mCons (mVar 0) mNil)) (mChain dLe dLe (mC (.int 0)) (mVar 0) (mC (.int 999)))))
def f_is_id : Fp := runP 1 M_is_id

def M_law_one : MS :=
    (sRet (mBin dIx (mVar 1) (mCallK 0 2 f_law_pick (mCons (mCB fLen (mCons (mVar 1) mNil)) mNil))))
def f_law_one : Fk := runK 2 M_law_one

def M_law_is_worth : MS :=
    (sRet (mOrV (mCall 1 f_law_is_name (mCons (mVar 0) mNil)) (mAndV (mCall 1 f_law_whole (mCons (mVar 0) mNil)) (mChain dLe dLe (mBin dSub (mC (.int 0)) (mBin dPow (mC (.int 10)) (mC (.int 6)))) (mVar 0) (mBin dPow (mC (.int 10)) (mC (.int 6)))))))
def f_law_is_worth : Fp := runP 1 M_law_is_worth

def M_law_written : MS :=
    (sSeq (sAsg (mCB fTuple (mCons (mNew (mLc (mRange1 (mBin dAdd (mC (.int 8)) (mCallK 0 2 f_law_pick (mCons (mC (.int 2)) mNil)))) (bName 7) mYes (mTup (mCons (mVar 7) (mCons (mTup (mCons (mVar 7) (mCons (mC .none) mNil))) mNil))) [7])) mNil)) (bName 1))
    (sSeq (sAsg (mSl (mTup (mCons (mC (.str "a")) (mCons (mC (.str "b")) (mCons (mC (.str "c")) (mCons (mC (.str "d")) (mCons (mC (.str "e")) (mCons (mC (.str "f")) mNil))))))) mNoPart (mPart (mBin dAdd (mC (.int 5)) (mCallK 0 2 f_law_pick (mCons (mC (.int 2)) mNil))))) (bName 2))
    (sSeq (sAsgOwn 3 (mSz (mCons (mTup (mCons (mTup (mCons (mC (.str "a")) (mCons (mTup (mCons (mTup (mCons (mC (.str "a")) (mCons (mC (.str "b")) mNil))) (mCons (mVar 1) mNil))) mNil))) mNil)) (mCons (mTup (mCons (mTup (mCons (mC (.str "a")) (mCons (mTup (mCons (mVar 2) (mCons (mTup mNil) mNil))) mNil))) mNil)) mNil))))
    (sSeq (sAsg (mSl (mNew (mSz (mCons (mC (.str "a")) (mCons (mC (.str "b")) (mCons (mC (.str "c")) (mCons (mC (.str "d")) (mCons (mC (.str "e")) mNil))))))) mNoPart (mPart (mBin dAdd (mC (.int 4)) (mCallK 0 2 f_law_pick (mCons (mC (.int 2)) mNil))))) (bName 4))
    (sSeq (sDrop (mAppend 3 (mCB fTuple (mCons (mNew (mLc (mIt (mVar 4)) (bName 8) mYes (mTup (mCons (mVar 8) (mCons (mTup (mCons (mTup (mCons (mC (.str "a")) mNil)) (mCons (mTup mNil) mNil))) mNil))) [8])) mNil))))
    (sSeq (sFor (mIt (mNew (mSz (mCons (mBin dPow (mC (.int 10)) (mC (.int 6))) (mCons (mBin dAdd (mBin dPow (mC (.int 10)) (mC (.int 6))) (mC (.int 1))) (mCons (mBin dSub (mC (.int 0)) (mBin dPow (mC (.int 10)) (mC (.int 6)))) (mCons (mBin dSub (mBin dSub (mC (.int 0)) (mBin dPow (mC (.int 10)) (mC (.int 6)))) (mC (.int 1))) (mCons (mC (.str "")) (mCons (mC (.str "abcdefgh")) (mCons (mC (.str "abcdefghi")) (mCons (mC (.bool true)) (mCons (mC (.str "a1")) mNil)))))))))))) (bName 5) (sDrop (mAppend 3 (mTup (mCons (mTup (mCons (mC (.str "a")) (mCons (mTup (mCons (mTup (mCons (mC (.str "a")) mNil)) (mCons (mTup (mCons (mTup (mCons (mC (.int 0)) (mCons (mTup (mCons (mVar 5) mNil)) mNil))) mNil)) mNil))) mNil))) mNil)))))
    (sSeq (sFor (mIt (mNew (mSz (mCons (mC (.int 0)) (mCons (mC (.int 999)) (mCons (mC (.int 1000)) (mCons (mUn dNeg (mC (.int 1))) (mCons (mC (.bool true)) (mCons (mC .none) mNil))))))))) (bName 6) (sDrop (mAppend 3 (mTup (mCons (mTup (mCons (mC (.str "a")) (mCons (mTup (mCons (mTup (mCons (mC (.str "a")) mNil)) (mCons (mTup (mCons (mTup (mCons (mVar 6) (mCons (mTup (mCons (mC (.int 1)) mNil)) mNil))) mNil)) mNil))) mNil))) mNil)))))
    (sRet (mVar 3)))))))))
def f_law_written : Fk := runK 9 M_law_written

def M_is_row : MS :=
    (sSeq (sIf (mNotT (mTru (mCall 3 f_is_tuple (mCons (mVar 1) (mCons (mCB fLen (mCons (mVar 0) mNil)) (mCons (mCB fLen (mCons (mVar 0) mNil)) mNil)))))) (sRet (mC (.bool false))) sSkip)
    (sRet (mCB fAll (mCons (mNew (mLc (mIt (mVar 1)) (bName 2) mYes (mOrV (mBin dIs (mVar 2) (mC .none)) (mCall 1 f_is_worth (mCons (mVar 2) mNil))) [2])) mNil))))
def f_is_row : Fp := runP 3 M_is_row

def M_law_odd : MS :=
    (sSeq (sAsg (mNew (mSz (mCons (mC .none) (mCons (mC (.bool true)) (mCons (mC (.str "")) (mCons (mC (.str "a")) (mCons (mTup mNil) (mCons (mNew (mSz mNil)) (mCons (mTup (mCons (mTup mNil) mNil)) (mCons (mC (.int 7)) (mCons (mUn dNeg (mC (.int 1))) (mCons (mTup (mCons (mC (.str "zz")) (mCons (mC (.str "a")) mNil))) (mCons (mTup (mCons (mC (.str "zz")) (mCons (mC (.int 1)) mNil))) (mCons (mBin dPow (mC (.int 10)) (mC (.int 30))) (mCons (mTup (mCons (mC (.str "ann")) (mCons (mC (.bool true)) mNil))) (mCons (mTup (mCons (mC (.int 1)) (mCons (mC (.int 2)) mNil))) (mCons (mC (.str "A")) mNil))))))))))))))))) (bName 1))
    (sRet (mCallK 0 2 f_law_one (mCons (mVar 1) mNil))))
def f_law_odd : Fk := runK 2 M_law_odd

def M_law_worth : MS :=
    (sRet (mCallK 0 2 f_law_one (mCons (mNew (mSz (mCons (mC .none) (mCons (mC (.int 1)) (mCons (mC (.int 2)) (mCons (mC (.int 3)) (mCons (mC (.int 1)) (mCons (mC (.int 2)) (mCons (mC (.str "red")) (mCons (mC (.str "blue")) (mCons (mBin dSub (mCallK 0 2 f_law_pick (mCons (mC (.int 2001)) mNil)) (mC (.int 1000))) mNil))))))))))) mNil)))
def f_law_worth : Fk := runK 1 M_law_worth

def M_law_is_table : MS :=
    (sSeq (sIf (mOrT (mNotT (mTru (mIsi "tuple" (mVar 0)))) (mOrT (mB (mBin dNe (mCB fLen (mCons (mVar 0) mNil)) (mC (.int 2)))) (mNotT (mTru (mIsi "tuple" (mBin dIx (mVar 0) (mC (.int 0)))))))) (sRet (mC (.bool false))) sSkip)
    (sSeq (sAsg (mVar 0) (bTup 2 (bCons (bName 1) (bCons (bName 2) bNil))))
    (sSeq (sIf (mOrT (mNotT (mB (mChain dLe dLe (mC (.int 1)) (mCB fLen (mCons (mVar 1) mNil)) (mC (.int 5))))) (mB (mBin dNe (mNew (mLc (mIt (mVar 1)) (bName 7) (mNotT (mTru (mCall 1 f_law_is_name (mCons (mVar 7) mNil)))) (mVar 7) [7])) (mNew (mSz mNil))))) (sRet (mC (.bool false))) sSkip)
    (sSeq (sIf (mOrT (mNotT (mTru (mCall 1 f_law_rises (mCons (mVar 1) mNil)))) (mNotT (mTru (mCall 2 f_law_are_pairs (mCons (mVar 2) (mCons (mC (.int 8)) mNil)))))) (sRet (mC (.bool false))) sSkip)
    (sSeq (sFor (mIt (mVar 2)) (bTup 2 (bCons (bName 3) (bCons (bName 4) bNil))) (sSeq (sIf (mOrT (mNotT (mTru (mCall 1 f_law_whole (mCons (mVar 3) mNil)))) (mOrT (mNotT (mB (mChain dLe dLe (mC (.int 0)) (mVar 3) (mC (.int 999))))) (mNotT (mTru (mIsi "tuple" (mVar 4)))))) (sRet (mC (.bool false))) sSkip)
    (sSeq (sAsg (mNew (mLc (mIt (mVar 4)) (bName 6) (mAndT (mB (mBin dIsNot (mVar 6) (mC .none))) (mNotT (mTru (mCall 1 f_law_is_worth (mCons (mVar 6) mNil))))) (mVar 6) [6])) (bName 5))
    (sIf (mOrT (mB (mBin dNe (mCB fLen (mCons (mVar 4) mNil)) (mCB fLen (mCons (mVar 1) mNil)))) (mB (mBin dNe (mVar 5) (mNew (mSz mNil))))) (sRet (mC (.bool false))) sSkip))))
    (sRet (mCall 1 f_law_rises (mCons (mNew (mLc (mIt (mVar 2)) (bName 4) mYes (mBin dIx (mVar 4) (mC (.int 0))) [4])) mNil))))))))
def f_law_is_table : Fp := runP 8 M_law_is_table

def M_is_numbered_row : MS :=
    (sRet (mAndV (mCall 1 f_is_pair (mCons (mVar 1) mNil)) (mAndV (mCall 1 f_is_id (mCons (mBin dIx (mVar 1) (mC (.int 0))) mNil)) (mCall 2 f_is_row (mCons (mVar 0) (mCons (mBin dIx (mVar 1) (mC (.int 1))) mNil))))))
def f_is_numbered_row : Fp := runP 2 M_is_numbered_row

def M_law_houses : MS :=
    (sSeq (sAsgOwn 3 (mSz mNil))
    (sSeq (sFor (mIt (mSl (mNew (mSz (mCons (mC (.str "ann")) (mCons (mC (.str "bo")) (mCons (mC (.str "cy")) (mCons (mC (.str "dee")) mNil)))))) mNoPart (mPart (mBin dAdd (mC (.int 1)) (mCallK 0 2 f_law_pick (mCons (mVar 1) mNil)))))) (bName 4) (sSeq (sAsg (mCB fTuple (mCons (mNew (mLc (mIt (mNew (mSz (mCons (mC (.str "a")) (mCons (mC (.str "b")) (mCons (mC (.str "c")) (mCons (mC (.str "d")) mNil))))))) (bName 8) (mB (mBin dGt (mCallK 0 2 f_law_pick (mCons (mC (.int 3)) mNil)) (mC (.int 0)))) (mVar 8) [8])) mNil)) (bName 5))
    (sSeq (sAsg (mIfE (mB (mBin dNe (mVar 5) (mTup mNil))) (mVar 5) (mTup (mCons (mC (.str "a")) mNil))) (bName 5))
    (sSeq (sAsgOwn 6 (mSz mNil))
    (sSeq (sFor (mRange1 (mCallK 0 2 f_law_pick (mCons (mBin dAdd (mVar 2) (mC (.int 1))) mNil))) (bName 7) (sDrop (mAppend 6 (mTup (mCons (mBin dAdd (mBin dMul (mC (.int 3)) (mVar 7)) (mCallK 0 2 f_law_pick (mCons (mC (.int 3)) mNil))) (mCons (mCB fTuple (mCons (mNew (mLc (mIt (mVar 5)) (bName 8) mYes (mCallK 0 1 f_law_worth mNil) [8])) mNil)) mNil))))))
    (sDrop (mAppend 3 (mTup (mCons (mVar 4) (mCons (mTup (mCons (mVar 5) (mCons (mCB fTuple (mCons (mVar 6) mNil)) mNil))) mNil))))))))))
    (sRet (mCB fTuple (mCons (mVar 3) mNil)))))
def f_law_houses : Fk := runK 9 M_law_houses

def M_law_good : MS :=
    (sSeq (sIf (mOrT (mNotT (mTru (mCall 2 f_law_are_pairs (mCons (mVar 0) (mCons (mC (.int 4)) mNil))))) (mB (mBin dEq (mVar 0) (mTup mNil)))) (sRet (mC (.bool false))) sSkip)
    (sSeq (sIf (mB (mBin dNe (mNew (mLc (mIt (mVar 0)) (bName 1) (mOrT (mNotT (mTru (mCall 1 f_law_is_name (mCons (mBin dIx (mVar 1) (mC (.int 0))) mNil)))) (mNotT (mTru (mCall 1 f_law_is_table (mCons (mBin dIx (mVar 1) (mC (.int 1))) mNil))))) (mVar 1) [1])) (mNew (mSz mNil)))) (sRet (mC (.bool false))) sSkip)
    (sRet (mCall 1 f_law_rises (mCons (mNew (mLc (mIt (mVar 0)) (bName 1) mYes (mBin dIx (mVar 1) (mC (.int 0))) [1])) mNil)))))
def f_law_good : Fp := runP 2 M_law_good

def M_are_rows : MS :=
    (sSeq (sIf (mNotT (mTru (mCall 3 f_is_tuple (mCons (mVar 1) (mCons (mC (.int 0)) (mCons (mC (.int 8)) mNil)))))) (sRet (mC (.bool false))) sSkip)
    (sSeq (sIf (mNotT (mTru (mCB fAll (mCons (mNew (mLc (mIt (mVar 1)) (bName 2) mYes (mCall 2 f_is_numbered_row (mCons (mVar 0) (mCons (mVar 2) mNil))) [2])) mNil)))) (sRet (mC (.bool false))) sSkip)
    (sRet (mCall 1 f_rises (mCons (mNew (mLc (mIt (mVar 1)) (bTup 2 (bCons (bName 3) (bCons (bName 4) bNil))) mYes (mVar 3) [3, 4])) mNil)))))
def f_are_rows : Fp := runP 5 M_are_rows

def M_is_table : MS :=
    (sRet (mAndV (mCall 1 f_is_pair (mCons (mVar 0) mNil)) (mAndV (mCall 1 f_are_columns (mCons (mBin dIx (mVar 0) (mC (.int 0))) mNil)) (mCall 2 f_are_rows (mCons (mBin dIx (mVar 0) (mC (.int 0))) (mCons (mBin dIx (mVar 0) (mC (.int 1))) mNil))))))
def f_is_table : Fp := runP 1 M_is_table

def M_is_house : MS :=
    (sRet (mAndV (mCall 1 f_is_pair (mCons (mVar 0) mNil)) (mAndV (mCall 1 f_is_name (mCons (mBin dIx (mVar 0) (mC (.int 0))) mNil)) (mCall 1 f_is_table (mCons (mBin dIx (mVar 0) (mC (.int 1))) mNil)))))
def f_is_house : Fp := runP 1 M_is_house

def M_are_houses : MS :=
    (sSeq (sIf (mNotT (mTru (mCall 3 f_is_tuple (mCons (mVar 0) (mCons (mC (.int 1)) (mCons (mC (.int 4)) mNil)))))) (sRet (mC (.bool false))) sSkip)
    (sSeq (sIf (mNotT (mTru (mCB fAll (mCons (mNew (mLc (mIt (mVar 0)) (bName 1) mYes (mCall 1 f_is_house (mCons (mVar 1) mNil)) [1])) mNil)))) (sRet (mC (.bool false))) sSkip)
    (sRet (mCall 1 f_rises (mCons (mNew (mLc (mIt (mVar 0)) (bTup 2 (bCons (bName 2) (bCons (bName 3) bNil))) mYes (mVar 2) [2, 3])) mNil)))))
def f_are_houses : Fp := runP 4 M_are_houses

def M_law_same (fr : Fp) : MS :=
    (sSeq (sIf (mB (mBin dNe (mCall 1 f_law_sort (mCons (mVar 0) mNil)) (mCall 1 f_law_sort (mCons (mVar 1) mNil)))) (sRet (mC (.bool false))) sSkip)
    (sSeq (sIf (mAndT (mB (mBin dGt (mCall 1 f_law_sort (mCons (mVar 0) mNil)) (mC (.int 3)))) (mB (mBin dLt (mCall 1 f_law_sort (mCons (mVar 0) mNil)) (mC (.int 6))))) (sSeq (sIf (mB (mBin dNe (mCB fLen (mCons (mVar 0) mNil)) (mCB fLen (mCons (mVar 1) mNil)))) (sRet (mC (.bool false))) sSkip)
    (sRet (mBin dEq (mNew (mLc (mEnum (mVar 0)) (bTup 2 (bCons (bName 2) (bCons (bName 3) bNil))) (mNotT (mTru (mCall 2 fr (mCons (mVar 3) (mCons (mBin dIx (mVar 1) (mVar 2)) mNil))))) (mVar 2) [2, 3])) (mNew (mSz mNil))))) sSkip)
    (sRet (mBin dEq (mVar 0) (mVar 1)))))
def f_law_same : Nat → Fp
  | 0 => fun _ => none
  | n + 1 => runP 4 (M_law_same (f_law_same n))

def M_law_spoilt (fr : Fk) : MS :=
    (sSeq (sIf (mAndT (mTru (mIsi2 "tuple" "list" (mVar 1))) (mAndT (mB (mBin dGt (mCB fLen (mCons (mVar 1) mNil)) (mC (.int 0)))) (mB (mBin dGt (mCallK 0 2 f_law_pick (mCons (mC (.int 5)) mNil)) (mC (.int 0)))))) (sSeq (sAsgOwn 2 (mListOf (mVar 1)))
    (sSeq (sAsg (mCallK 0 2 f_law_pick (mCons (mLenOwn 2) mNil)) (bName 3))
    (sSeq (sSetOwn 2 (mVar 3) (mCallK 0 2 fr (mCons (mIxOwn 2 (mVar 3)) mNil)))
    (sRet (mIfE (mTru (mIsi "tuple" (mVar 1))) (mCB fTuple (mCons (mVar 2) mNil)) (mVar 2)))))) sSkip)
    (sSeq (sIf (mTru (mIsi2 "tuple" "list" (mVar 1))) (sSeq (sAsg (mIfE (mTru (mIsi "tuple" (mVar 1))) (mNew (mListOf (mVar 1))) (mCB fTuple (mCons (mVar 1) mNil))) (bName 4))
    (sRet (mBin dIx (mNew (mSz (mCons (mVar 4) (mCons (mBin dAdd (mVar 1) (mSl (mVar 1) mNoPart (mPart (mC (.int 1))))) (mCons (mSl (mVar 1) (mPart (mC (.int 1))) mNoPart) (mCons (mUn dRev (mVar 1)) (mCons (mC .none) mNil))))))) (mCallK 0 2 f_law_pick (mCons (mC (.int 5)) mNil))))) sSkip)
    (sSeq (sIf (mTru (mIsi "int" (mVar 1))) (sRet (mBin dIx (mNew (mSz (mCons (mBin dAdd (mVar 1) (mC (.int 1))) (mCons (mBin dSub (mVar 1) (mC (.int 1))) (mCons (mC (.bool true)) (mCons (mC .none) (mCons (mC (.int 1000)) (mCons (mBin dAdd (mBin dPow (mC (.int 10)) (mC (.int 6))) (mC (.int 1))) (mCons (mCB fStr (mCons (mVar 1) mNil)) mNil))))))))) (mCallK 0 2 f_law_pick (mCons (mC (.int 7)) mNil)))) sSkip)
    (sRet (mBin dIx (mNew (mSz (mCons (mC .none) (mCons (mC (.int 7)) (mCons (mC (.str "n")) (mCons (mC (.str "")) (mCons (mC (.str "A")) (mCons (mC (.str "abcdefghi")) (mCons (mC (.str "first")) (mCons (mC (.str "is")) mNil)))))))))) (mCallK 0 2 f_law_pick (mCons (mC (.int 8)) mNil)))))))
def f_law_spoilt : Nat → Fk
  | 0 => fun _ _ => none
  | n + 1 => runK 5 (M_law_spoilt (f_law_spoilt n))

def M_law : MS :=
    (sSeq (sFor (mIt (mSl (mBin dAdd (mNew (mSz (mCons (mC (.int 0)) mNil))) (mVar 0)) mNoPart (mPart (mC (.int 10))))) (bName 1) (sSeq (sAsgOwn 2 (mCallN 2 f_law_deck (mCons (mVar 1) (mCons (mC (.int 1)) mNil))))
    (sSeq (sAsg (mCallK 2 3 f_law_houses (mCons (mC (.int 4)) (mCons (mC (.int 5)) mNil))) (bName 3))
    (sSeq (sAsg (mCallK 2 2 (f_law_spoilt 20) (mCons (mVar 3) mNil)) (bName 4))
    (sSeq (sAsg (mNew (mSz (mCons (mVar 3) (mCons (mVar 4) (mCons (mCallK 2 2 (f_law_spoilt 20) (mCons (mVar 4) mNil)) (mCons (mUn dRev (mVar 3)) (mCons (mBin dAdd (mVar 3) (mSl (mVar 3) mNoPart (mPart (mC (.int 1))))) (mCons (mNew (mListOf (mVar 3))) (mCons (mTup mNil) (mCons (mC .none) (mCons (mCallK 2 1 f_law_odd mNil) mNil))))))))))) (bName 5))
    (sFor (mIt (mBin dAdd (mBin dAdd (mVar 5) (mNew (mLc (mRange1 (mC (.int 4))) (bName 7) mYes (mCallK 2 2 (f_law_spoilt 20) (mCons (mVar 3) mNil)) [7]))) (mCallK 2 1 f_law_written mNil))) (bName 6) (sIf (mNotT (mTru (mCall 2 (f_law_same 20) (mCons (mCall 1 f_are_houses (mCons (mVar 6) mNil)) (mCons (mCall 1 f_law_good (mCons (mVar 6) mNil)) mNil))))) (sRet (mC (.bool false))) sSkip)))))))
    (sRet (mC (.bool true))))
def f_law : Fp := runP 8 M_law
end PB

set_option maxHeartbeats 4000000
namespace PB
open PySem PySem.Spec PyProof.Rows L2

/-! ### comprehensions that change nothing -/
theorem lcGo_pure {bind : MG} {test : MT} {elt : ME} {vs : List Nat} {e0 : Sg} (t : D → Bool) (g : D → D) (eb : D → Sg) : ∀ {items : List D}, (∀ d ∈ items, bind d e0 = some (eb d)) → (∀ d ∈ items, test (eb d) = some (t d, eb d)) →
    (∀ d ∈ items, t d = true → elt (eb d) = some (g d, eb d)) → (∀ d ∈ items, wipeC (eb d) vs = some e0) → lcGo bind test elt vs items e0 = some ((items.filter t).map g, e0)
  | [], _, _, _, _ => rfl
  | d :: ds, hb, ht, he, hw => by
    have m : d ∈ d :: ds := List.mem_cons_self
    have ih := lcGo_pure t g eb (items := ds) (fun x h => hb x (List.mem_cons_of_mem _ h)) (fun x h => ht x (List.mem_cons_of_mem _ h)) (fun x h => he x (List.mem_cons_of_mem _ h)) (fun x h => hw x (List.mem_cons_of_mem _ h))
    unfold lcGo
    rw [hb d m]
    simp only [Option.bind_some]
    rw [ht d m]
    simp only [Option.bind_some]
    cases h : t d with
    | true =>
      rw [if_pos rfl, he d m h]
      simp only [Option.bind_some]
      rw [hw d m]
      simp only [Option.bind_some]
      rw [ih, List.filter_cons, if_pos h]
      rfl
    | false =>
      rw [if_neg Bool.false_ne_true, hw d m]
      simp only [Option.bind_some]
      rw [ih, List.filter_cons, if_neg (by rw [h]; exact Bool.false_ne_true)]
theorem lc_pure {mi : ML} {bind : MG} {test : MT} {elt : ME} {vs : List Nat} {e : Sg} {items : List D} (t : D → Bool) (g : D → D) (eb : D → Sg) (e0 : Sg) (h1 : mi e = some (items, e)) (hz : items.length ≤ 100000) (h0 : wipeC e vs = some e0) (hr : restore e e0 vs = e)
    (hb : ∀ d ∈ items, bind d e0 = some (eb d)) (ht : ∀ d ∈ items, test (eb d) = some (t d, eb d)) (he : ∀ d ∈ items, t d = true → elt (eb d) = some (g d, eb d)) (hw : ∀ d ∈ items, wipeC (eb d) vs = some e0) :
    mLc mi bind test elt vs e = some ((items.filter t).map g, e) := by
  unfold mLc
  rw [h1]
  simp only [Option.bind_some]
  rw [if_pos (show szOk items.length = true from decide_eq_true hz), h0]
  simp only [Option.bind_some]
  rw [lcGo_pure t g eb hb ht he hw]
  simp only [Option.map_some]
  rw [hr]

/-! ### kinds of things -/
def isTup : D → Bool | .tuple _ => true | _ => false
def isLst : D → Bool | .list _ => true | _ => false
def isStr : D → Bool | .str _ => true | _ => false
def noDict : D → Bool | .dict _ => false | _ => true
/-! ### is_whole -/
def whole : D → Bool | .int _ => true | _ => false
theorem e_is_whole {d : D} (h : noDict d = true) : f_is_whole [d] = some (.val (.bool (whole d))) := by
  cases d <;> first | (cases h; done) | simp [f_is_whole, M_is_whole, runP_def, startE, whole]
theorem e_law_whole {d : D} (h : noDict d = true) : f_law_whole [d] = some (.val (.bool (whole d))) := by
  cases d <;> first | (cases h; done) | simp [f_law_whole, M_law_whole, runP_def, startE, whole]
end PB

set_option maxHeartbeats 4000000
namespace PB
open PySem PySem.Spec PyProof.Rows L2

/-! ### small data -/
def fine (W : Nat) : Nat → D → Bool
  | _, .none => true
  | _, .bool _ => true
  | _, .int i => decide (i.natAbs ≤ 10 ^ 31 + W)
  | _, .str s => decide (s.length ≤ 2000) && PyData.strOk s
  | n + 1, .list ds => decide (ds.length ≤ W) && ds.all (fine W n)
  | n + 1, .tuple ds => decide (ds.length ≤ W) && ds.all (fine W n)
  | _, _ => false
theorem fine_noDict {W n : Nat} {d : D} (h : fine W n d = true) : noDict d = true := by
  cases d <;> first | rfl | (cases n <;> cases h)
theorem fine_str {W n : Nat} {s : Str} (h : fine W n (.str s) = true) : s.length ≤ 2000 ∧ PyData.strOk s = true := by
  cases n <;> simpa [fine] using h
theorem fine_tup {W n : Nat} {ds : List D} (h : fine W n (.tuple ds) = true) : ∃ m, n = m + 1 ∧ ds.length ≤ W ∧ ∀ d ∈ ds, fine W m d = true := by
  cases n with
  | zero => cases h
  | succ m =>
    have h' : (decide (ds.length ≤ W) && ds.all (fine W m)) = true := h
    simp only [Bool.and_eq_true, decide_eq_true_eq, List.all_eq_true] at h'
    exact ⟨m, rfl, h'.1, h'.2⟩
theorem fine_list {W n : Nat} {ds : List D} (h : fine W n (.list ds) = true) : ∃ m, n = m + 1 ∧ ds.length ≤ W ∧ ∀ d ∈ ds, fine W m d = true := by
  cases n with
  | zero => cases h
  | succ m =>
    have h' : (decide (ds.length ≤ W) && ds.all (fine W m)) = true := h
    simp only [Bool.and_eq_true, decide_eq_true_eq, List.all_eq_true] at h'
    exact ⟨m, rfl, h'.1, h'.2⟩
theorem fine_lay {W : Nat} : ∀ {n : Nat} {d : D}, fine W n d = true → d.canLay0 = true ∧ d.depth ≤ n := by
  intro n
  induction n with
  | zero =>
    intro d h
    cases d <;> simp_all [fine, PyData.canLay0, PyData.depth]
  | succ n ih =>
    have all : ∀ ds : List D, (∀ d ∈ ds, fine W n d = true) → PyData.canLayAll0 ds = true ∧ PyData.depthAll ds ≤ n := by
      intro ds
      induction ds with
      | nil => intro _; simp [PyData.canLayAll0, PyData.depthAll]
      | cons d r ih2 =>
        intro h
        have h1 := ih (h d List.mem_cons_self)
        have h2 := ih2 fun x hx => h x (List.mem_cons_of_mem _ hx)
        simp [PyData.canLayAll0, PyData.depthAll, h1.1, h2.1]
        omega
    intro d h
    cases d with
    | none => simp [PyData.canLay0, PyData.depth]
    | bool b => simp [PyData.canLay0, PyData.depth]
    | int i => simp [PyData.canLay0, PyData.depth]
    | str s =>
      have := fine_str h
      simp [PyData.canLay0, PyData.depth, this.2]
    | list ds =>
      obtain ⟨m, hm, _, h2⟩ := fine_list h
      cases hm
      have := all ds h2
      simp [PyData.canLay0, PyData.depth, this.1]
      omega
    | tuple ds =>
      obtain ⟨m, hm, _, h2⟩ := fine_tup h
      cases hm
      have := all ds h2
      simp [PyData.canLay0, PyData.depth, this.1]
      omega
    | dict k => cases h
theorem fine_shaped {W n : Nat} {d : D} (h : fine W n d = true) (hn : n ≤ 60) : SeqAt.shaped d = true := by
  obtain ⟨h1, h2⟩ := fine_lay h
  unfold SeqAt.shaped
  simp [h1]
  omega
theorem shaped_list {W n : Nat} {ds : List D} (h : ∀ d ∈ ds, fine W n d = true) (hn : n ≤ 60) : SeqAt.shaped (.list ds) = true := by
  have h2 : fine (max W ds.length) (n + 1) (.list ds) = true := by
    have up : ∀ (m : Nat) (d : D), fine W m d = true → fine (max W ds.length) m d = true := by
      intro m
      induction m with
      | zero =>
        intro d h
        cases d <;> simp_all [fine]
        omega
      | succ m ih =>
        intro d h
        cases d <;> simp_all [fine]
        all_goals omega
    simp only [fine, Bool.and_eq_true, decide_eq_true_eq, List.all_eq_true]
    exact ⟨Nat.le_max_right _ _, fun d hd => up n d (h d hd)⟩
  unfold SeqAt.shaped
  obtain ⟨q1, q2⟩ := fine_lay h2
  simp [q1]
  omega
theorem eqv_nil (ds : List D) : PyData.eqv (.list ds) (.list []) = ds.isEmpty := by
  cases ds <;> rfl
theorem shaped_nil : SeqAt.shaped (.list []) = true := by decide +kernel
theorem dEq_nil {W n : Nat} {ds : List D} (h : ∀ d ∈ ds, fine W n d = true) (hn : n ≤ 60) : dEq (.list ds) (.list []) = some (.bool ds.isEmpty) := by
  unfold dEq
  rw [shaped_list h hn, shaped_nil, eqv_nil]
  rfl
theorem dNe_nil {W n : Nat} {ds : List D} (h : ∀ d ∈ ds, fine W n d = true) (hn : n ≤ 60) : dNe (.list ds) (.list []) = some (.bool (!ds.isEmpty)) := by
  unfold dNe
  rw [shaped_list h hn, shaped_nil, eqv_nil]
  rfl

/-! ### names -/
def okSign : D → Bool
  | .str s => !sLt s "a" && !sLt "z" s
  | _ => false
def name : D → Bool
  | .str s => decide (1 ≤ s.length) && decide (s.length ≤ 8) && (signs s).all okSign
  | _ => false
theorem bools_map (l : List D) (p : D → Bool) : bools (l.map fun d => .bool (p d)) = some (l.map p) := by
  induction l with
  | nil => rfl
  | cons d r ih => simp [bools, ih]
theorem filter_true (l : List D) : l.filter (fun _ => true) = l := by simp
theorem signs_len (s : Str) : (signs s).length = s.length := by
  unfold signs
  rw [List.length_map, Array.length_toList]
  rfl
theorem signs_str {s : Str} {d : D} (h : d ∈ signs s) : ∃ c, d = .str ⟨#[c]⟩ := by
  unfold signs at h
  obtain ⟨c, _, h2⟩ := List.mem_map.mp h
  exact ⟨c, h2.symm⟩
theorem chain_sign {d : D} (h : isStr d = true) (i : Nat) (e : Sg) (hi : e[i]? = some (some (.val d))) : mChain dLe dLe (mC (.str "a")) (mVar i) (mC (.str "z")) e = some (.bool (okSign d), e) := by
  cases d <;> first | (cases h; done) | skip
  simp [mChain, mC, mVar, hi, dLe, dCmp, okSign]
  split <;> simp_all
end PB

set_option maxHeartbeats 4000000
namespace PB
open PySem PySem.Spec PyProof.Rows L2

theorem lc_signs {s : Str} (hs : s.length ≤ 2000) : mLc (mIt (mVar 0)) (bName 1) mYes (mChain dLe dLe (mC (.str "a")) (mVar 1) (mC (.str "z"))) [1] [some (.val (.str s)), none] = some ((signs s).map fun d => .bool (okSign d), [some (.val (.str s)), none]) := by
  rw [lc_pure (items := signs s) (fun _ => true) (fun d => .bool (okSign d)) (fun d => [some (.val (.str s)), some (.val d)]) [some (.val (.str s)), none] rfl (by rw [signs_len]; omega) rfl rfl (fun d _ => rfl) (fun d _ => rfl) (fun d hd _ => ?_) (fun d _ => rfl), filter_true]
  obtain ⟨c, rfl⟩ := signs_str hd
  exact chain_sign rfl 1 _ rfl
theorem fLen_s {s : Str} (h : s.length ≤ 2000) : fLen [.str s] = some (.int s.length) := by
  have hz : szOk s.length = true := decide_eq_true (by omega)
  simp [fLen, hz]
theorem e_is_name {W n : Nat} {d : D} (h : fine W n d = true) : f_is_name [d] = some (.val (.bool (name d))) := by
  cases d with
  | str s =>
    obtain ⟨h1, _⟩ := fine_str h
    have hl := fLen_s h1
    by_cases a : (1 : Int) ≤ s.length
    · by_cases b : (s.length : Int) ≤ 8
      · have a' : 1 ≤ s.length := by omega
        have b' : s.length ≤ 8 := by omega
        simp [f_is_name, M_is_name, runP_def, startE, hl, a, b, lc_signs h1, fAll, bools_map, name, a', b', List.all_map]
      · have b' : ¬ s.length ≤ 8 := by omega
        simp [f_is_name, M_is_name, runP_def, startE, hl, a, b, name, b']
    · have a' : ¬ 1 ≤ s.length := by omega
      simp [f_is_name, M_is_name, runP_def, startE, hl, a, name, a']
  | dict k => cases n <;> cases h
  | _ => simp [f_is_name, M_is_name, runP_def, startE, name]
theorem lc_bad {s : Str} (hs : s.length ≤ 2000) : mLc (mIt (mVar 0)) (bName 1) (mNotT (mB (mChain dLe dLe (mC (.str "a")) (mVar 1) (mC (.str "z"))))) (mVar 1) [1] [some (.val (.str s)), none] = some ((signs s).filter (fun d => !okSign d), [some (.val (.str s)), none]) := by
  rw [lc_pure (items := signs s) (fun d => !okSign d) (fun d => d) (fun d => [some (.val (.str s)), some (.val d)]) [some (.val (.str s)), none] rfl (by rw [signs_len]; omega) rfl rfl (fun d _ => rfl) (fun d hd => ?_) (fun d _ _ => rfl) (fun d _ => rfl), List.map_id']
  obtain ⟨c, rfl⟩ := signs_str hd
  unfold mNotT mB
  rw [chain_sign rfl 1 _ rfl]
  rfl
theorem filter_empty (l : List D) (p : D → Bool) : (l.filter fun d => !p d).isEmpty = l.all p := by
  induction l with
  | nil => rfl
  | cons d r ih => cases h : p d <;> simp [h, ih]
theorem strOk_sign {c : Nat} (h : c < 0x110000) : PyData.strOk ⟨#[c]⟩ = true := by
  simp [PyData.strOk, h]
theorem fine_signs {s : Str} (h : PyData.strOk s = true) : ∀ d ∈ signs s, fine 1 0 d = true := by
  intro d hd
  unfold signs at hd
  obtain ⟨c, hc, rfl⟩ := List.mem_map.mp hd
  have : c < 0x110000 := by
    unfold PyData.strOk at h
    have := Array.all_eq_true_iff_forall_mem.mp h c (by simpa using hc)
    simpa using this
  show (decide ((⟨#[c]⟩ : Str).length ≤ 2000) && PyData.strOk ⟨#[c]⟩) = true
  rw [strOk_sign this]
  rfl
theorem fine_filter {W n : Nat} {ds : List D} {p : D → Bool} (h : ∀ d ∈ ds, fine W n d = true) : ∀ d ∈ ds.filter p, fine W n d = true := fun d hd => h d (List.mem_filter.mp hd).1
theorem e_law_is_name {W n : Nat} {d : D} (h : fine W n d = true) : f_law_is_name [d] = some (.val (.bool (name d))) := by
  cases d with
  | str s =>
    obtain ⟨h1, h2⟩ := fine_str h
    have hl := fLen_s h1
    have he := dEq_nil (fine_filter (p := fun d => !okSign d) (fine_signs h2)) (by decide)
    rw [filter_empty] at he
    by_cases a : (1 : Int) ≤ s.length
    · by_cases b : (s.length : Int) ≤ 8
      · have a' : 1 ≤ s.length := by omega
        have b' : s.length ≤ 8 := by omega
        simp [f_law_is_name, M_law_is_name, runP_def, startE, hl, a, b, lc_bad h1, he, name, a', b']
      · have b' : ¬ s.length ≤ 8 := by omega
        simp [f_law_is_name, M_law_is_name, runP_def, startE, hl, a, b, name, b']
    · have a' : ¬ 1 ≤ s.length := by omega
      simp [f_law_is_name, M_law_is_name, runP_def, startE, hl, a, name, a']
  | dict k => cases n <;> cases h
  | _ => simp [f_law_is_name, M_law_is_name, runP_def, startE, name]
end PB

set_option maxHeartbeats 4000000
namespace PB
open PySem PySem.Spec PyProof.Rows L2

/-! ### rising -/
def ltD : D → D → Bool
  | .int i, .int j => decide (i < j)
  | .str i, .str j => sLt i j
  | _, _ => false
def risesB : List D → Bool
  | a :: b :: r => ltD a b && risesB (b :: r)
  | _ => true
/-- all numbers, or all texts -/
def Alike (ds : List D) : Prop := (∀ d ∈ ds, whole d = true) ∨ (∀ d ∈ ds, isStr d = true)
theorem Alike.lt {ds : List D} (h : Alike ds) {a b : D} (ha : a ∈ ds) (hb : b ∈ ds) : dLt a b = some (.bool (ltD a b)) ∧ dGe a b = some (.bool (!ltD a b)) := by
  rcases h with h | h
  · have h1 := h a ha
    have h2 := h b hb
    cases a <;> cases h1
    cases b <;> cases h2
    rename_i i j
    refine ⟨rfl, ?_⟩
    show some (PyData.bool (decide (j ≤ i))) = some (PyData.bool (!decide (i < j)))
    congr 2
    by_cases hh : i < j
    · rw [decide_eq_true hh, decide_eq_false (by omega)]
      rfl
    · rw [decide_eq_false hh, decide_eq_true (by omega)]
      rfl
  · have h1 := h a ha
    have h2 := h b hb
    cases a <;> cases h1
    cases b <;> cases h2
    exact ⟨rfl, rfl⟩
theorem cutD1 (ds : List D) : cutD ds (some 1) none = ds.drop 1 := by
  unfold cutD
  rw [show HT.sIx ds.length 0 (some 1) = min 1 ds.length from HT.sIx_nat ds.length 0 1, HT.sIx_none]
  cases ds with
  | nil => rfl
  | cons x r =>
    rw [show min 1 (x :: r).length = 1 by rw [List.length_cons]; omega]
    show (List.take ((x :: r).length - 1) r) = r
    rw [List.length_cons, Nat.add_sub_cancel]
    exact List.take_length
def ltP : D → Bool
  | .tuple [a, b] => ltD a b
  | _ => false
theorem zip_rises : ∀ ds : List D, (zipD ds (ds.drop 1)).all ltP = risesB ds
  | [] => rfl
  | [_] => rfl
  | a :: b :: r => by
    show (ltP (.tuple [a, b]) && (zipD (b :: r) ((b :: r).drop 1)).all ltP) = (ltD a b && risesB (b :: r))
    rw [zip_rises (b :: r)]
    rfl
def pairE (c : D) : D → Sg
  | .tuple [a, b] => [some (.val c), some (.val a), some (.val b)]
  | _ => []
theorem zip_mem {as bs : List D} {d : D} (h : d ∈ zipD as bs) : ∃ a b, a ∈ as ∧ b ∈ bs ∧ d = .tuple [a, b] := by
  obtain ⟨i, hi⟩ := List.mem_iff_getElem?.mp h
  obtain ⟨a, b, h1, h2, h3⟩ := zipD_get hi
  exact ⟨a, b, List.mem_of_getElem? h1, List.mem_of_getElem? h2, h3⟩
theorem lc_zip {c : D} {ds : List D} (hc : zipOf c (if isTup c then .tuple (ds.drop 1) else .list (ds.drop 1)) = some (zipD ds (ds.drop 1))) (hs : dSl c (some 1) none = some (if isTup c then .tuple (ds.drop 1) else .list (ds.drop 1))) (h : Alike ds) (hl : ds.length ≤ 1000) :
    mLc (mZip (mVar 0) (mSl (mVar 0) (mPart (mC (.int 1))) mNoPart)) (bTup 2 (bCons (bName 1) (bCons (bName 2) bNil))) mYes (mBin dLt (mVar 1) (mVar 2)) [1, 2] [some (.val c), none, none] = some ((zipD ds (ds.drop 1)).map fun d => .bool (ltP d), [some (.val c), none, none]) := by
  rw [lc_pure (items := zipD ds (ds.drop 1)) (fun _ => true) (fun d => .bool (ltP d)) (pairE c) [some (.val c), none, none] ?_ ?_ rfl rfl (fun d hd => ?_) (fun d _ => rfl) (fun d hd _ => ?_) (fun d hd => ?_), filter_true]
  · simp [hs]
    simpa using hc
  · rw [zipD_len]
    omega
  · obtain ⟨a, b, _, _, rfl⟩ := zip_mem hd
    rfl
  · obtain ⟨a, b, h1, h2, rfl⟩ := zip_mem hd
    have := (h.lt h1 (List.mem_of_mem_drop h2)).1
    simp [pairE, this, ltP]
  · obtain ⟨a, b, _, _, rfl⟩ := zip_mem hd
    rfl
theorem e_rises_t {ds : List D} (h : Alike ds) (hl : ds.length ≤ 1000) : f_rises [.tuple ds] = some (.val (.bool (risesB ds))) := by
  have := lc_zip (c := .tuple ds) (ds := ds) rfl (by show some (PyData.tuple (cutD ds (some 1) none)) = _; rw [cutD1]; rfl) h hl
  simp [f_rises, M_rises, runP_def, startE, this, fAll, bools_map, List.all_map, ← zip_rises]
theorem e_rises_l {ds : List D} (h : Alike ds) (hl : ds.length ≤ 1000) : f_rises [.list ds] = some (.val (.bool (risesB ds))) := by
  have := lc_zip (c := .list ds) (ds := ds) rfl (by show some (PyData.list (cutD ds (some 1) none)) = _; rw [cutD1]; rfl) h hl
  simp [f_rises, M_rises, runP_def, startE, this, fAll, bools_map, List.all_map, ← zip_rises]
theorem rises_iff : ∀ ds : List D, risesB ds = true ↔ ∀ i, i + 1 < ds.length → ltD (ds.getD i .none) (ds.getD (i + 1) .none) = true
  | [] => by simp [risesB]
  | [_] => by simp [risesB]
  | a :: b :: r => by
    unfold risesB
    rw [Bool.and_eq_true, rises_iff (b :: r)]
    constructor
    · rintro ⟨h1, h2⟩ i hi
      cases i with
      | zero => exact h1
      | succ j =>
        have := h2 j (by simp only [List.length_cons] at hi ⊢; omega)
        simpa using this
    · intro h
      refine ⟨by simpa using h 0 (by simp), fun i hi => ?_⟩
      have := h (i + 1) (by simp only [List.length_cons] at hi ⊢; omega)
      simpa using this
def geT (ds : List D) : D → Bool
  | .int k => !ltD (ds.getD (k - 1).toNat .none) (ds.getD k.toNat .none)
  | _ => false
theorem range_mem {lo : Int} {n : Nat} {d : D} (h : d ∈ rangeD lo n) : ∃ i : Nat, i < n ∧ d = .int (lo + i) := by
  unfold rangeD at h
  obtain ⟨i, h1, h2⟩ := List.mem_map.mp h
  exact ⟨i, List.mem_range.mp h1, h2.symm⟩
theorem range_all (ds : List D) : (rangeD 1 (ds.length - 1)).all (fun d => !geT ds d) = risesB ds := by
  rw [Bool.eq_iff_iff, rises_iff, List.all_eq_true]
  constructor
  · intro h i hi
    have := h (.int (1 + (i : Nat))) (by unfold rangeD; exact List.mem_map.mpr ⟨i, List.mem_range.mpr (by omega), rfl⟩)
    unfold geT at this
    have e1 : (1 + (i : Int) - 1).toNat = i := by omega
    have e2 : (1 + (i : Int)).toNat = i + 1 := by omega
    simp only [e1, e2, Bool.not_not] at this
    exact this
  · intro h d hd
    obtain ⟨i, hi, rfl⟩ := range_mem hd
    have := h i (by omega)
    unfold geT
    have e1 : (1 + (i : Int) - 1).toNat = i := by omega
    have e2 : (1 + (i : Int)).toNat = i + 1 := by omega
    simp only [e1, e2, Bool.not_not]
    exact this
theorem at_nat {ds : List D} {j : Nat} {z : Int} (hz : z = j) (h : j < ds.length) : atI ds z = some (ds.getD j .none) := by
  rw [hz]
  refine atI_nat ?_
  rw [List.getD_eq_getElem?_getD, List.getElem?_eq_getElem h]
  rfl
theorem lc_range {c : D} {ds : List D} (hi : ∀ z, dIx c (.int z) = atI ds z) (hlen : fLen [c] = some (.int ds.length)) (h : Alike ds) (hl : ds.length ≤ 1000) :
    mLc (mRange2 (mC (.int 1)) (mCB fLen (mCons (mVar 0) mNil))) (bName 1) (mB (mBin dGe (mBin dIx (mVar 0) (mBin dSub (mVar 1) (mC (.int 1)))) (mBin dIx (mVar 0) (mVar 1)))) (mVar 1) [1] [some (.val c), none] =
      some ((rangeD 1 (ds.length - 1)).filter (geT ds), [some (.val c), none]) := by
  rw [lc_pure (items := rangeD 1 (ds.length - 1)) (geT ds) (fun d => d) (fun d => [some (.val c), some (.val d)]) [some (.val c), none] ?_ ?_ rfl rfl (fun d _ => rfl) (fun d hd => ?_) (fun d _ _ => rfl) (fun d _ => rfl), List.map_id']
  · have e : ((ds.length : Int) - 1).toNat = ds.length - 1 := by omega
    have b1 : ((ds.length : Int) ≤ 100000 ∧ (-100000 : Int) ≤ ds.length) := by omega
    simp [mRange2, hlen, e, b1]
  · rw [rangeD_len]
    omega
  · obtain ⟨i, hi', rfl⟩ := range_mem hd
    have a1 := at_nat (ds := ds) (j := i) (z := 1 + (i : Int) - 1) (by omega) (by omega)
    have a2 := at_nat (ds := ds) (j := i + 1) (z := 1 + (i : Int)) (by omega) (by omega)
    have m1 : ds.getD i .none ∈ ds := by
      rw [List.getD_eq_getElem?_getD, List.getElem?_eq_getElem (show i < ds.length by omega)]
      exact List.getElem_mem _
    have m2 : ds.getD (i + 1) .none ∈ ds := by
      rw [List.getD_eq_getElem?_getD, List.getElem?_eq_getElem (show i + 1 < ds.length by omega)]
      exact List.getElem_mem _
    have g := (h.lt m1 m2).2
    have e1 : (1 + (i : Int) - 1).toNat = i := by omega
    have e2 : (1 + (i : Int)).toNat = i + 1 := by omega
    simp only [ev_B, ev_Bin, ev_Var0, ev_Var1, ev_C, Option.bind_some, dSub_int, Option.map_some, hi, a1, a2, g, isB_b, geT, e1, e2]
theorem filter_not_empty (l : List D) (p : D → Bool) : (l.filter p).isEmpty = l.all fun d => !p d := by
  induction l with
  | nil => rfl
  | cons d r ih => cases h : p d <;> simp [h, ih]
theorem fine_range {lo : Int} {n : Nat} (h0 : 0 ≤ lo) (h1 : lo ≤ 1000) (hn : n ≤ 1000) : ∀ d ∈ rangeD lo n, fine 1 0 d = true := by
  intro d hd
  obtain ⟨i, hi, rfl⟩ := range_mem hd
  show decide ((lo + (i : Int)).natAbs ≤ 10 ^ 31 + 1) = true
  refine decide_eq_true ?_
  have : (lo + (i : Int)).natAbs ≤ 2000 := by omega
  exact Nat.le_trans this (by decide)
theorem e_law_rises_t {ds : List D} (h : Alike ds) (hl : ds.length ≤ 1000) : f_law_rises [.tuple ds] = some (.val (.bool (risesB ds))) := by
  have h1 := lc_range (c := .tuple ds) (ds := ds) (fun _ => rfl) rfl h hl
  have he := dEq_nil (fine_filter (p := geT ds) (fine_range (lo := 1) (n := ds.length - 1) (by decide) (by decide) (by omega))) (by decide)
  rw [filter_not_empty, range_all] at he
  simp [f_law_rises, M_law_rises, runP_def, startE, h1, he]
theorem e_law_rises_l {ds : List D} (h : Alike ds) (hl : ds.length ≤ 1000) : f_law_rises [.list ds] = some (.val (.bool (risesB ds))) := by
  have h1 := lc_range (c := .list ds) (ds := ds) (fun _ => rfl) rfl h hl
  have he := dEq_nil (fine_filter (p := geT ds) (fine_range (lo := 1) (n := ds.length - 1) (by decide) (by decide) (by omega))) (by decide)
  rw [filter_not_empty, range_all] at he
  simp [f_law_rises, M_law_rises, runP_def, startE, h1, he]
end PB

set_option maxHeartbeats 4000000
namespace PB
open PySem PySem.Spec PyProof.Rows L2

/-! ### the program's looks -/
def tupN (lo hi : Nat) : D → Bool
  | .tuple ds => decide (lo ≤ ds.length) && decide (ds.length ≤ hi)
  | _ => false
theorem e_is_tuple {d : D} {lo hi : Nat} (h : noDict d = true) : f_is_tuple [d, .int lo, .int hi] = some (.val (.bool (tupN lo hi d))) := by
  cases d with
  | tuple ds =>
    by_cases a : (lo : Int) ≤ ds.length
    · have a' : lo ≤ ds.length := by omega
      by_cases b : (ds.length : Int) ≤ hi
      · have b' : ds.length ≤ hi := by omega
        simp [f_is_tuple, M_is_tuple, runP_def, startE, tupN, a, b, a', b']
      · have b' : ¬ ds.length ≤ hi := by omega
        simp [f_is_tuple, M_is_tuple, runP_def, startE, tupN, a, b, a', b']
    · have a' : ¬ lo ≤ ds.length := by omega
      simp [f_is_tuple, M_is_tuple, runP_def, startE, tupN, a, a']
  | dict k => cases h
  | _ => simp [f_is_tuple, M_is_tuple, runP_def, startE, tupN]
def pair (d : D) : Bool := tupN 2 2 d
theorem e_is_pair {d : D} (h : noDict d = true) : f_is_pair [d] = some (.val (.bool (pair d))) := by
  cases d with
  | tuple ds =>
    have hd : dEq (.int ds.length) (.int 2) = some (.bool (pair (.tuple ds))) := by
      have : ((ds.length : Int) == 2) = pair (.tuple ds) := by
        rw [Bool.eq_iff_iff]
        simp [pair, tupN]
        omega
      rw [← this]
      simp [dEq, SeqAt.shaped, PyData.canLay0, PyData.depth, PyData.eqv]
    simp [f_is_pair, M_is_pair, runP_def, startE, hd]
  | dict k => cases h
  | _ => simp [f_is_pair, M_is_pair, runP_def, startE, pair, tupN]
def worth : D → Bool
  | .int i => decide (-1000000 ≤ i) && decide (i ≤ 1000000)
  | d => name d
theorem e_is_worth {W n : Nat} {d : D} (h : fine W n d = true) : f_is_worth [d] = some (.val (.bool (worth d))) := by
  have h1 := e_is_whole (fine_noDict h)
  have h2 := e_is_name h
  cases d with
  | int i =>
    by_cases a : (-1000000 : Int) ≤ i
    · simp [f_is_worth, M_is_worth, runP_def, startE, h1, whole, worth, a]
    · simp [f_is_worth, M_is_worth, runP_def, startE, h1, whole, worth, a]
  | dict k => cases n <;> cases h
  | _ => simp [f_is_worth, M_is_worth, runP_def, startE, h1, h2, whole, worth]
theorem e_law_is_worth {W n : Nat} {d : D} (h : fine W n d = true) : f_law_is_worth [d] = some (.val (.bool (worth d))) := by
  have h1 := e_law_whole (fine_noDict h)
  have h2 := e_law_is_name h
  cases d with
  | int i =>
    by_cases a : (-1000000 : Int) ≤ i
    · simp [f_law_is_worth, M_law_is_worth, runP_def, startE, h1, h2, whole, worth, name, a, dPow, iOp]
    · simp [f_law_is_worth, M_law_is_worth, runP_def, startE, h1, h2, whole, worth, name, a, dPow, iOp]
  | str s =>
    cases hn : name (.str s) <;> simp [f_law_is_worth, M_law_is_worth, runP_def, startE, h1, h2, whole, worth, hn]
  | dict k => cases n <;> cases h
  | _ => simp [f_law_is_worth, M_law_is_worth, runP_def, startE, h1, h2, whole, worth, name]
def idOk : D → Bool
  | .int i => decide (0 ≤ i) && decide (i ≤ 999)
  | _ => false
theorem e_is_id {d : D} (h : noDict d = true) : f_is_id [d] = some (.val (.bool (idOk d))) := by
  have h1 := e_is_whole h
  cases d with
  | int i =>
    by_cases a : (0 : Int) ≤ i
    · simp [f_is_id, M_is_id, runP_def, startE, h1, whole, idOk, a]
    · simp [f_is_id, M_is_id, runP_def, startE, h1, whole, idOk, a]
  | dict k => cases h
  | _ => simp [f_is_id, M_is_id, runP_def, startE, h1, whole, idOk]
/-- columns -/
def cols : D → Bool
  | .tuple ds => decide (1 ≤ ds.length) && decide (ds.length ≤ 5) && ds.all name && risesB ds
  | _ => false
theorem name_str {d : D} (h : name d = true) : isStr d = true := by
  cases d <;> first | rfl | cases h
theorem alike_names {ds : List D} (h : ds.all name = true) : Alike ds := .inr fun d hd => name_str (List.all_eq_true.mp h d hd)
theorem lc_names {ds : List D} {W n : Nat} (h : ∀ d ∈ ds, fine W n d = true) (hl : ds.length ≤ 1000) : mLc (mIt (mVar 0)) (bName 1) mYes (mCall 1 f_is_name (mCons (mVar 1) mNil)) [1] [some (.val (.tuple ds)), none] = some (ds.map fun d => .bool (name d), [some (.val (.tuple ds)), none]) := by
  rw [lc_pure (items := ds) (fun _ => true) (fun d => .bool (name d)) (fun d => [some (.val (.tuple ds)), some (.val d)]) [some (.val (.tuple ds)), none] rfl (by omega) rfl rfl (fun d _ => rfl) (fun d _ => rfl) (fun d hd _ => ?_) (fun d _ => rfl), filter_true]
  simp [e_is_name (h d hd)]
theorem e_are_columns {W n : Nat} {d : D} (h : fine W n d = true) (hW : W ≤ 1000) : f_are_columns [d] = some (.val (.bool (cols d))) := by
  have h1 : f_is_tuple [d, .int 1, .int 5] = _ := e_is_tuple (d := d) (lo := 1) (hi := 5) (fine_noDict h)
  cases d with
  | tuple ds =>
    obtain ⟨m, rfl, hl, hd⟩ := fine_tup h
    by_cases a : 1 ≤ ds.length ∧ ds.length ≤ 5
    · have ht : tupN 1 5 (.tuple ds) = true := by simp [tupN, a]
      rw [ht] at h1
      cases hn : ds.all name with
      | true =>
        have hr := e_rises_t (alike_names hn) (by omega)
        simp [f_are_columns, M_are_columns, runP_def, startE, h1, lc_names hd (by omega), fAll, bools_map, List.all_map, cols, a, hr, hn]
      | false =>
        simp [f_are_columns, M_are_columns, runP_def, startE, h1, lc_names hd (by omega), fAll, bools_map, List.all_map, cols, a, hn]
    · have ht : tupN 1 5 (.tuple ds) = false := by
        simp [tupN]
        omega
      rw [ht] at h1
      simp [f_are_columns, M_are_columns, runP_def, startE, h1, cols]
      omega
  | dict k => cases n <;> cases h
  | _ => simp [f_are_columns, M_are_columns, runP_def, startE, h1, tupN, cols]
end PB

set_option maxHeartbeats 4000000
namespace PB
open PySem PySem.Spec PyProof.Rows L2

theorem pair_inv {d : D} (h : pair d = true) : ∃ a b, d = .tuple [a, b] := by
  cases d with
  | tuple ds =>
    simp only [pair, tupN, Bool.and_eq_true, decide_eq_true_eq] at h
    match ds, h with
    | [a, b], _ => exact ⟨a, b, rfl⟩
  | _ => cases h
def fstD : D → D
  | .tuple (a :: _) => a
  | _ => .none
def worthN (d : D) : Bool := isNone d || worth d
def rowOk (k : Nat) : D → Bool
  | .tuple ws => decide (ws.length = k) && ws.all worthN
  | _ => false
theorem lc_worths {c : D} {ds : List D} {W n : Nat} (h : ∀ d ∈ ds, fine W n d = true) (hl : ds.length ≤ 1000) :
    mLc (mIt (mVar 1)) (bName 2) mYes (mOrV (mBin dIs (mVar 2) (mC .none)) (mCall 1 f_is_worth (mCons (mVar 2) mNil))) [2] [some (.val c), some (.val (.tuple ds)), none] = some (ds.map fun d => .bool (worthN d), [some (.val c), some (.val (.tuple ds)), none]) := by
  rw [lc_pure (items := ds) (fun _ => true) (fun d => .bool (worthN d)) (fun d => [some (.val c), some (.val (.tuple ds)), some (.val d)]) [some (.val c), some (.val (.tuple ds)), none] rfl (by omega) rfl rfl (fun d _ => rfl) (fun d _ => rfl) (fun d hd _ => ?_) (fun d _ => rfl), filter_true]
  have := e_is_worth (h d hd)
  cases hn : isNone d <;> simp [this, worthN, hn]
theorem e_is_row {W n : Nat} {cs : List D} {d : D} (h : fine W n d = true) (hW : W ≤ 1000) : f_is_row [.tuple cs, d] = some (.val (.bool (rowOk cs.length d))) := by
  have h1 := e_is_tuple (d := d) (lo := cs.length) (hi := cs.length) (fine_noDict h)
  cases d with
  | tuple ds =>
    obtain ⟨m, rfl, hl, hd⟩ := fine_tup h
    by_cases a : ds.length = cs.length
    · have ht : tupN cs.length cs.length (.tuple ds) = true := by simp [tupN, a]
      rw [ht] at h1
      simp [f_is_row, M_is_row, runP_def, startE, h1, lc_worths hd (by omega), fAll, bools_map, List.all_map, rowOk, a]
    · have ht : tupN cs.length cs.length (.tuple ds) = false := by
        simp [tupN]
        omega
      rw [ht] at h1
      simp [f_is_row, M_is_row, runP_def, startE, h1, rowOk, a]
  | dict k => cases n <;> cases h
  | _ => simp [f_is_row, M_is_row, runP_def, startE, h1, tupN, rowOk]
def numRow (k : Nat) : D → Bool
  | .tuple [a, b] => idOk a && rowOk k b
  | _ => false
theorem numRow_no {k : Nat} {d : D} (h : pair d = false) : numRow k d = false := by
  unfold numRow
  split
  · simp [pair, tupN] at h
  · rfl
theorem e_is_numbered_row {W n : Nat} {cs : List D} {d : D} (h : fine W n d = true) (hW : W ≤ 1000) : f_is_numbered_row [.tuple cs, d] = some (.val (.bool (numRow cs.length d))) := by
  have h1 := e_is_pair (fine_noDict h)
  cases hp : pair d with
  | true =>
    obtain ⟨a, b, rfl⟩ := pair_inv hp
    obtain ⟨m, rfl, hl, hd⟩ := fine_tup h
    have h2 := e_is_id (fine_noDict (hd a (by simp)))
    have h3 := e_is_row (cs := cs) (hd b (by simp)) hW
    cases hi : idOk a <;> simp [f_is_numbered_row, M_is_numbered_row, runP_def, startE, h1, hp, h2, h3, numRow, hi]
  | false => simp [f_is_numbered_row, M_is_numbered_row, runP_def, startE, h1, hp, numRow_no hp]
def rowsOk (k : Nat) : D → Bool
  | .tuple rs => decide (rs.length ≤ 8) && rs.all (numRow k) && risesB (rs.map fstD)
  | _ => false
theorem numRow_inv {k : Nat} {d : D} (h : numRow k d = true) : ∃ a b, d = .tuple [a, b] ∧ idOk a = true ∧ rowOk k b = true := by
  unfold numRow at h
  split at h
  · rw [Bool.and_eq_true] at h
    exact ⟨_, _, rfl, h.1, h.2⟩
  · cases h
theorem idOk_whole {d : D} (h : idOk d = true) : whole d = true := by
  cases d <;> first | rfl | cases h
theorem lc_nums {c : D} {cs ds : List D} {W n : Nat} (h : ∀ d ∈ ds, fine W n d = true) (hW : W ≤ 1000) (hl : ds.length ≤ 1000) :
    mLc (mIt (mVar 1)) (bName 2) mYes (mCall 2 f_is_numbered_row (mCons (mVar 0) (mCons (mVar 2) mNil))) [2] [some (.val (.tuple cs)), some (.val (.tuple ds)), none, none, none] =
      some (ds.map fun d => .bool (numRow cs.length d), [some (.val (.tuple cs)), some (.val (.tuple ds)), none, none, none]) := by
  rw [lc_pure (items := ds) (fun _ => true) (fun d => .bool (numRow cs.length d)) (fun d => [some (.val (.tuple cs)), some (.val (.tuple ds)), some (.val d), none, none]) [some (.val (.tuple cs)), some (.val (.tuple ds)), none, none, none] rfl (by omega) rfl rfl (fun d _ => rfl) (fun d _ => rfl) (fun d hd _ => ?_) (fun d _ => rfl), filter_true]
  simp [e_is_numbered_row (h d hd) hW]
theorem lc_ids {c : D} {ds : List D} (h : ∀ d ∈ ds, pair d = true) (hl : ds.length ≤ 1000) :
    mLc (mIt (mVar 1)) (bTup 2 (bCons (bName 3) (bCons (bName 4) bNil))) mYes (mVar 3) [3, 4] [some (.val c), some (.val (.tuple ds)), none, none, none] =
      some (ds.map fstD, [some (.val c), some (.val (.tuple ds)), none, none, none]) := by
  rw [lc_pure (items := ds) (fun _ => true) fstD (fun d => match d with | .tuple [a, b] => [some (.val c), some (.val (.tuple ds)), none, some (.val a), some (.val b)] | _ => []) [some (.val c), some (.val (.tuple ds)), none, none, none] rfl (by omega) rfl rfl (fun d hd => ?_) (fun d _ => rfl) (fun d hd _ => ?_) (fun d hd => ?_), filter_true]
  all_goals
    obtain ⟨a, b, rfl⟩ := pair_inv (h d hd)
    rfl
theorem e_are_rows {W n : Nat} {cs : List D} {d : D} (h : fine W n d = true) (hW : W ≤ 1000) : f_are_rows [.tuple cs, d] = some (.val (.bool (rowsOk cs.length d))) := by
  have h1 : f_is_tuple [d, .int 0, .int 8] = _ := e_is_tuple (d := d) (lo := 0) (hi := 8) (fine_noDict h)
  cases d with
  | tuple ds =>
    obtain ⟨m, rfl, hl, hd⟩ := fine_tup h
    by_cases a : ds.length ≤ 8
    · have ht : tupN 0 8 (.tuple ds) = true := by simp [tupN, a]
      rw [ht] at h1
      cases hn : ds.all (numRow cs.length) with
      | true =>
        have hp : ∀ d ∈ ds, pair d = true := fun d hd => by
          obtain ⟨x, y, rfl, _⟩ := numRow_inv (List.all_eq_true.mp hn d hd)
          rfl
        have al : Alike (ds.map fstD) := .inl fun d hd => by
          obtain ⟨x, hx, rfl⟩ := List.mem_map.mp hd
          obtain ⟨u, v, rfl, q, _⟩ := numRow_inv (List.all_eq_true.mp hn x hx)
          exact idOk_whole q
        have hr := e_rises_l al (by rw [List.length_map]; omega)
        simp [f_are_rows, M_are_rows, runP_def, startE, h1, lc_nums (c := .none) (cs := cs) hd hW (by omega), fAll, bools_map, List.all_map, hn, lc_ids hp (by omega), hr, rowsOk, a]
      | false =>
        simp [f_are_rows, M_are_rows, runP_def, startE, h1, lc_nums (c := .none) (cs := cs) hd hW (by omega), fAll, bools_map, List.all_map, hn, rowsOk, a]
    · have ht : tupN 0 8 (.tuple ds) = false := by
        simp [tupN]
        omega
      rw [ht] at h1
      simp [f_are_rows, M_are_rows, runP_def, startE, h1, rowsOk, a]
  | dict k => cases n <;> cases h
  | _ => simp [f_are_rows, M_are_rows, runP_def, startE, h1, tupN, rowsOk]
def table : D → Bool
  | .tuple [.tuple cs, r] => cols (.tuple cs) && rowsOk cs.length r
  | _ => false
theorem cols_tup {d : D} (h : cols d = true) : ∃ cs, d = .tuple cs := by
  cases d <;> first | exact ⟨_, rfl⟩ | cases h
theorem table_no {a b : D} (h : cols a = false) : table (.tuple [a, b]) = false := by
  cases a <;> first | rfl | (simp [table, h])
theorem table_nop {d : D} (h : pair d = false) : table d = false := by
  unfold table
  split
  · simp [pair, tupN] at h
  · rfl
theorem e_is_table {W n : Nat} {d : D} (h : fine W n d = true) (hW : W ≤ 1000) : f_is_table [d] = some (.val (.bool (table d))) := by
  have h1 := e_is_pair (fine_noDict h)
  cases hp : pair d with
  | true =>
    obtain ⟨a, b, rfl⟩ := pair_inv hp
    obtain ⟨m, rfl, hl, hd⟩ := fine_tup h
    have h2 := e_are_columns (hd a (by simp)) hW
    cases hc : cols a with
    | true =>
      obtain ⟨cs, rfl⟩ := cols_tup hc
      have h3 := e_are_rows (cs := cs) (hd b (by simp)) hW
      simp [f_is_table, M_is_table, runP_def, startE, h1, hp, h2, hc, h3, table]
    | false => simp [f_is_table, M_is_table, runP_def, startE, h1, hp, h2, hc, table_no hc]
  | false => simp [f_is_table, M_is_table, runP_def, startE, h1, hp, table_nop hp]
def house : D → Bool
  | .tuple [a, b] => name a && table b
  | _ => false
theorem house_no {d : D} (h : pair d = false) : house d = false := by
  unfold house
  split
  · simp [pair, tupN] at h
  · rfl
theorem house_inv {d : D} (h : house d = true) : ∃ a b, d = .tuple [a, b] ∧ name a = true ∧ table b = true := by
  unfold house at h
  split at h
  · rw [Bool.and_eq_true] at h
    exact ⟨_, _, rfl, h.1, h.2⟩
  · cases h
theorem e_is_house {W n : Nat} {d : D} (h : fine W n d = true) (hW : W ≤ 1000) : f_is_house [d] = some (.val (.bool (house d))) := by
  have h1 := e_is_pair (fine_noDict h)
  cases hp : pair d with
  | true =>
    obtain ⟨a, b, rfl⟩ := pair_inv hp
    obtain ⟨m, rfl, hl, hd⟩ := fine_tup h
    have h2 := e_is_name (hd a (by simp))
    have h3 := e_is_table (hd b (by simp)) hW
    cases hi : name a <;> simp [f_is_house, M_is_house, runP_def, startE, h1, hp, h2, h3, house, hi]
  | false => simp [f_is_house, M_is_house, runP_def, startE, h1, hp, house_no hp]
def houses : D → Bool
  | .tuple hs => decide (1 ≤ hs.length) && decide (hs.length ≤ 4) && hs.all house && risesB (hs.map fstD)
  | _ => false
theorem lc_hs {ds : List D} {W n : Nat} (h : ∀ d ∈ ds, fine W n d = true) (hW : W ≤ 1000) (hl : ds.length ≤ 1000) :
    mLc (mIt (mVar 0)) (bName 1) mYes (mCall 1 f_is_house (mCons (mVar 1) mNil)) [1] [some (.val (.tuple ds)), none, none, none] = some (ds.map fun d => .bool (house d), [some (.val (.tuple ds)), none, none, none]) := by
  rw [lc_pure (items := ds) (fun _ => true) (fun d => .bool (house d)) (fun d => [some (.val (.tuple ds)), some (.val d), none, none]) [some (.val (.tuple ds)), none, none, none] rfl (by omega) rfl rfl (fun d _ => rfl) (fun d _ => rfl) (fun d hd _ => ?_) (fun d _ => rfl), filter_true]
  simp [e_is_house (h d hd) hW]
theorem lc_hn {ds : List D} (h : ∀ d ∈ ds, pair d = true) (hl : ds.length ≤ 1000) :
    mLc (mIt (mVar 0)) (bTup 2 (bCons (bName 2) (bCons (bName 3) bNil))) mYes (mVar 2) [2, 3] [some (.val (.tuple ds)), none, none, none] = some (ds.map fstD, [some (.val (.tuple ds)), none, none, none]) := by
  rw [lc_pure (items := ds) (fun _ => true) fstD (fun d => match d with | .tuple [a, b] => [some (.val (.tuple ds)), none, some (.val a), some (.val b)] | _ => []) [some (.val (.tuple ds)), none, none, none] rfl (by omega) rfl rfl (fun d hd => ?_) (fun d _ => rfl) (fun d hd _ => ?_) (fun d hd => ?_), filter_true]
  all_goals
    obtain ⟨a, b, rfl⟩ := pair_inv (h d hd)
    rfl
theorem e_are_houses {W n : Nat} {d : D} (h : fine W n d = true) (hW : W ≤ 1000) : f_are_houses [d] = some (.val (.bool (houses d))) := by
  have h1 : f_is_tuple [d, .int 1, .int 4] = _ := e_is_tuple (d := d) (lo := 1) (hi := 4) (fine_noDict h)
  cases d with
  | tuple ds =>
    obtain ⟨m, rfl, hl, hd⟩ := fine_tup h
    by_cases a : 1 ≤ ds.length ∧ ds.length ≤ 4
    · have ht : tupN 1 4 (.tuple ds) = true := by simp [tupN, a]
      rw [ht] at h1
      cases hn : ds.all house with
      | true =>
        have hp : ∀ d ∈ ds, pair d = true := fun d hd => by
          obtain ⟨x, y, rfl, _⟩ := house_inv (List.all_eq_true.mp hn d hd)
          rfl
        have al : Alike (ds.map fstD) := .inr fun d hd => by
          obtain ⟨x, hx, rfl⟩ := List.mem_map.mp hd
          obtain ⟨u, v, rfl, q, _⟩ := house_inv (List.all_eq_true.mp hn x hx)
          exact name_str q
        have hr := e_rises_l al (by rw [List.length_map]; omega)
        simp [f_are_houses, M_are_houses, runP_def, startE, h1, lc_hs hd hW (by omega), fAll, bools_map, List.all_map, hn, lc_hn hp (by omega), hr, houses, a]
      | false =>
        simp [f_are_houses, M_are_houses, runP_def, startE, h1, lc_hs hd hW (by omega), fAll, bools_map, List.all_map, hn, houses, a]
    · have ht : tupN 1 4 (.tuple ds) = false := by
        simp [tupN]
        omega
      rw [ht] at h1
      have hh : houses (.tuple ds) = false := by
        simp [houses]
        omega
      simp [f_are_houses, M_are_houses, runP_def, startE, h1, hh]
  | dict k => cases n <;> cases h
  | _ => simp [f_are_houses, M_are_houses, runP_def, startE, h1, tupN, houses]
end PB

set_option maxHeartbeats 4000000
namespace PB
open PySem PySem.Spec PyProof.Rows L2

theorem shaped_int (i : Int) : SeqAt.shaped (.int i) = true := by simp [SeqAt.shaped, PyData.canLay0, PyData.depth]
theorem shaped_bool (b : Bool) : SeqAt.shaped (.bool b) = true := by simp [SeqAt.shaped, PyData.canLay0, PyData.depth]
@[simp] theorem dNe_int {i j : Int} : dNe (.int i) (.int j) = some (.bool (!(i == j))) := by simp [dNe, shaped_int, PyData.eqv]
@[simp] theorem dEq_int {i j : Int} : dEq (.int i) (.int j) = some (.bool (i == j)) := by simp [dEq, shaped_int, PyData.eqv]
@[simp] theorem dEq_bool {i j : Bool} : dEq (.bool i) (.bool j) = some (.bool (i == j)) := by simp [dEq, shaped_bool, PyData.eqv]
theorem dEq_unit {W n : Nat} {ds : List D} (h : fine W n (.tuple ds) = true) (hn : n ≤ 60) : dEq (.tuple ds) (.tuple []) = some (.bool ds.isEmpty) := by
  unfold dEq
  rw [fine_shaped h hn, show SeqAt.shaped (.tuple []) = true by decide +kernel]
  cases ds <;> rfl
/-! ### the law's looks -/
def pairsN (most : Nat) : D → Bool
  | .tuple ds => decide (ds.length ≤ most) && ds.all pair
  | _ => false
theorem lc_nopair {c : D} {ds : List D} {W n : Nat} (h : ∀ d ∈ ds, fine W n d = true) (hl : ds.length ≤ 1000) :
    mLc (mIt (mVar 0)) (bName 2) (mOrT (mNotT (mTru (mIsi "tuple" (mVar 2)))) (mB (mBin dNe (mCB fLen (mCons (mVar 2) mNil)) (mC (.int 2))))) (mVar 2) [2] [some (.val (.tuple ds)), some (.val c), none] =
      some (ds.filter (fun d => !pair d), [some (.val (.tuple ds)), some (.val c), none]) := by
  rw [lc_pure (items := ds) (fun d => !pair d) (fun d => d) (fun d => [some (.val (.tuple ds)), some (.val c), some (.val d)]) [some (.val (.tuple ds)), some (.val c), none] rfl (by omega) rfl rfl (fun d _ => rfl) (fun d hd => ?_) (fun d _ _ => rfl) (fun d _ => rfl), List.map_id']
  have hn := fine_noDict (h d hd)
  cases d with
  | tuple xs =>
    have e : pair (.tuple xs) = ((xs.length : Int) == 2) := by
      rw [Bool.eq_iff_iff]
      simp only [pair, tupN, Bool.and_eq_true, decide_eq_true_eq, beq_iff_eq]
      omega
    simp [e]
  | dict k => cases hn
  | _ => simp [pair, tupN]
theorem e_law_are_pairs {W n most : Nat} {d : D} (h : fine W n d = true) (hW : W ≤ 1000) (hn : n ≤ 60) : f_law_are_pairs [d, .int most] = some (.val (.bool (pairsN most d))) := by
  cases d with
  | tuple ds =>
    obtain ⟨m, rfl, hl, hd⟩ := fine_tup h
    have he := dEq_nil (fine_filter (p := fun d => !pair d) hd) (by omega)
    rw [filter_empty] at he
    by_cases a : (most : Int) < ds.length
    · have a' : ¬ ds.length ≤ most := by omega
      simp [f_law_are_pairs, M_law_are_pairs, runP_def, startE, a, pairsN, a']
    · have a' : ds.length ≤ most := by omega
      simp [f_law_are_pairs, M_law_are_pairs, runP_def, startE, a, pairsN, a', lc_nopair hd (show ds.length ≤ 1000 by omega), he]
  | dict k => cases n <;> cases h
  | _ => simp [f_law_are_pairs, M_law_are_pairs, runP_def, startE, pairsN]

/-! ### a table by the law -/
def slv (o : Option D) : Option Sl := o.map Sl.val
theorem slv_par (o : Option D) : isPar (some (slv o)) = false := by cases o <;> rfl
theorem lc_badw {a0 a1 a2 a3 a5 : Option Sl} {ds : List D} {W n : Nat} (h : ∀ d ∈ ds, fine W n d = true) (hl : ds.length ≤ 1000) :
    mLc (mIt (mVar 4)) (bName 6) (mAndT (mB (mBin dIsNot (mVar 6) (mC .none))) (mNotT (mTru (mCall 1 f_law_is_worth (mCons (mVar 6) mNil))))) (mVar 6) [6] [a0, a1, a2, a3, some (.val (.tuple ds)), a5, none, none] =
      some (ds.filter (fun d => !worthN d), [a0, a1, a2, a3, some (.val (.tuple ds)), a5, none, none]) := by
  rw [lc_pure (items := ds) (fun d => !worthN d) (fun d => d) (fun d => [a0, a1, a2, a3, some (.val (.tuple ds)), a5, some (.val d), none]) [a0, a1, a2, a3, some (.val (.tuple ds)), a5, none, none] rfl (by omega) rfl rfl (fun d _ => rfl) (fun d hd => ?_) (fun d _ _ => rfl) (fun d _ => rfl), List.map_id']
  have := e_law_is_worth (h d hd)
  cases hn : isNone d <;> simp [this, worthN, hn]
def tabBody : MS := (sSeq (sIf (mOrT (mNotT (mTru (mCall 1 f_law_whole (mCons (mVar 3) mNil)))) (mOrT (mNotT (mB (mChain dLe dLe (mC (.int 0)) (mVar 3) (mC (.int 999))))) (mNotT (mTru (mIsi "tuple" (mVar 4)))))) (sRet (mC (.bool false))) sSkip)
    (sSeq (sAsg (mNew (mLc (mIt (mVar 4)) (bName 6) (mAndT (mB (mBin dIsNot (mVar 6) (mC .none))) (mNotT (mTru (mCall 1 f_law_is_worth (mCons (mVar 6) mNil))))) (mVar 6) [6])) (bName 5))
    (sIf (mOrT (mB (mBin dNe (mCB fLen (mCons (mVar 4) mNil)) (mCB fLen (mCons (mVar 1) mNil)))) (mB (mBin dNe (mVar 5) (mNew (mSz mNil))))) (sRet (mC (.bool false))) sSkip)))
theorem tab_body {a0 a2 : Option Sl} {cs : List D} {i r : D} {s5 : Option D} {W n : Nat} (hi : fine W n i = true) (hr : fine W n r = true) (hW : W ≤ 1000) (hn : n ≤ 60) :
    (numRow cs.length (.tuple [i, r]) = true → ∃ z, tabBody [a0, some (.val (.tuple cs)), a2, some (.val i), some (.val r), slv s5, none, none] = some (.next, [a0, some (.val (.tuple cs)), a2, some (.val i), some (.val r), some (.val z), none, none])) ∧
    (numRow cs.length (.tuple [i, r]) = false → ∃ e, tabBody [a0, some (.val (.tuple cs)), a2, some (.val i), some (.val r), slv s5, none, none] = some (.ret (.val (.bool false)), e)) := by
  have h1 := e_law_whole (fine_noDict hi)
  have hid : idOk i = false → ∃ e, tabBody [a0, some (.val (.tuple cs)), a2, some (.val i), some (.val r), slv s5, none, none] = some (.ret (.val (.bool false)), e) := by
    intro q
    cases i with
    | int k =>
      by_cases a : (0 : Int) ≤ k
      · have b : ¬ k ≤ 999 := by
          intro b
          simp [idOk, a, b] at q
        simp [tabBody, h1, whole, a, b]
      · simp [tabBody, h1, whole, a]
    | dict k => cases fine_noDict hi
    | _ => simp [tabBody, h1, whole]
  have tru : idOk i = true → ∃ k : Int, i = .int k ∧ 0 ≤ k ∧ k ≤ 999 := by
    intro q
    cases i with
    | int k =>
      simp only [idOk, Bool.and_eq_true, decide_eq_true_eq] at q
      exact ⟨k, rfl, q⟩
    | _ => cases q
  cases hq : idOk i with
  | false => exact ⟨fun q => by simp [numRow, hq] at q, fun _ => hid hq⟩
  | true =>
    obtain ⟨k, rfl, k1, k2⟩ := tru hq
    cases r with
    | tuple ws =>
      obtain ⟨m, rfl, hl, hd⟩ := fine_tup hr
      have he := dNe_nil (fine_filter (p := fun d => !worthN d) hd) (by omega)
      rw [filter_empty] at he
      have lc := lc_badw (a0 := a0) (a1 := some (.val (.tuple cs))) (a2 := a2) (a3 := some (.val (.int k))) (a5 := slv s5) hd (by omega)
      have bn : ∀ z, bName 5 z [a0, some (.val (.tuple cs)), a2, some (.val (.int k)), some (.val (.tuple ws)), slv s5, none, none] = some [a0, some (.val (.tuple cs)), a2, some (.val (.int k)), some (.val (.tuple ws)), some (.val z), none, none] := by
        intro z
        cases s5 <;> rfl
      by_cases a : ws.length = cs.length
      · cases hw : ws.all worthN with
        | true =>
          refine ⟨fun _ => ⟨.list (ws.filter fun d => !worthN d), ?_⟩, fun q => ?_⟩
          · simp [tabBody, h1, whole, k1, k2, lc, bn, a, he, hw]
          · simp [numRow, hq, rowOk, a, hw] at q
        | false =>
          refine ⟨fun q => ?_, fun _ => ?_⟩
          · simp [numRow, hq, rowOk, a, hw] at q
          · simp [tabBody, h1, whole, k1, k2, lc, bn, a, he, hw]
      · refine ⟨fun q => ?_, fun _ => ?_⟩
        · simp [numRow, hq, rowOk, a] at q
        · have a' : ¬ (ws.length : Int) = cs.length := by omega
          simp [tabBody, h1, whole, k1, k2, lc, bn, a']
    | dict q => cases fine_noDict hr
    | _ =>
      refine ⟨fun q => by simp [numRow, hq, rowOk] at q, fun _ => ?_⟩
      simp [tabBody, h1, whole, k1, k2]
theorem tab_loop {a0 a2 : Option Sl} {cs : List D} {W n : Nat} (hW : W ≤ 1000) (hn : n ≤ 60) : ∀ {rs : List D} {s3 s4 s5 : Option D}, (∀ d ∈ rs, fine W n d = true) → (∀ d ∈ rs, pair d = true) →
    (rs.all (numRow cs.length) = true → ∃ t3 t4 t5, forGo (bTup 2 (bCons (bName 3) (bCons (bName 4) bNil))) tabBody rs [a0, some (.val (.tuple cs)), a2, slv s3, slv s4, slv s5, none, none] = some (.next, [a0, some (.val (.tuple cs)), a2, slv t3, slv t4, slv t5, none, none])) ∧
    (rs.all (numRow cs.length) = false → ∃ e, forGo (bTup 2 (bCons (bName 3) (bCons (bName 4) bNil))) tabBody rs [a0, some (.val (.tuple cs)), a2, slv s3, slv s4, slv s5, none, none] = some (.ret (.val (.bool false)), e))
  | [], s3, s4, s5, _, _ => ⟨fun _ => ⟨s3, s4, s5, rfl⟩, fun q => nomatch q⟩
  | d :: rs, s3, s4, s5, hf, hp => by
    obtain ⟨i, r, rfl⟩ := pair_inv (hp d List.mem_cons_self)
    obtain ⟨m, rfl, hl, hd⟩ := fine_tup (hf _ List.mem_cons_self)
    have bn : bTup 2 (bCons (bName 3) (bCons (bName 4) bNil)) (.tuple [i, r]) [a0, some (.val (.tuple cs)), a2, slv s3, slv s4, slv s5, none, none] = some [a0, some (.val (.tuple cs)), a2, some (.val i), some (.val r), slv s5, none, none] := by
      cases s3 <;> cases s4 <;> rfl
    obtain ⟨g1, g2⟩ := tab_body (a0 := a0) (a2 := a2) (cs := cs) (s5 := s5) (hd i (by simp)) (hd r (by simp)) hW (by omega)
    cases hq : numRow cs.length (.tuple [i, r]) with
    | true =>
      obtain ⟨z, hz⟩ := g1 hq
      obtain ⟨q1, q2⟩ := tab_loop (a0 := a0) (a2 := a2) (cs := cs) hW hn (rs := rs) (s3 := some i) (s4 := some r) (s5 := some z) (fun x hx => hf x (List.mem_cons_of_mem _ hx)) (fun x hx => hp x (List.mem_cons_of_mem _ hx))
      have step : forGo (bTup 2 (bCons (bName 3) (bCons (bName 4) bNil))) tabBody (.tuple [i, r] :: rs) [a0, some (.val (.tuple cs)), a2, slv s3, slv s4, slv s5, none, none] = forGo (bTup 2 (bCons (bName 3) (bCons (bName 4) bNil))) tabBody rs [a0, some (.val (.tuple cs)), a2, some (.val i), some (.val r), some (.val z), none, none] := by
        rw [forGo, bn]
        simp only [Option.bind_some]
        rw [hz]
        simp only [Option.bind_some]
      rw [step, List.all_cons, hq, Bool.true_and]
      exact ⟨q1, q2⟩
    | false =>
      obtain ⟨e, he⟩ := g2 hq
      rw [List.all_cons, hq, Bool.false_and]
      refine ⟨(fun q => nomatch q), fun _ => ⟨e, ?_⟩⟩
      rw [forGo, bn]
      simp only [Option.bind_some]
      rw [he]
      simp only [Option.bind_some]
end PB

set_option maxHeartbeats 4000000
namespace PB
open PySem PySem.Spec PyProof.Rows L2

theorem lc_badn {a0 a2 : Option Sl} {ds : List D} {W n : Nat} (h : ∀ d ∈ ds, fine W n d = true) (hl : ds.length ≤ 1000) :
    mLc (mIt (mVar 1)) (bName 7) (mNotT (mTru (mCall 1 f_law_is_name (mCons (mVar 7) mNil)))) (mVar 7) [7] [a0, some (.val (.tuple ds)), a2, none, none, none, none, none] =
      some (ds.filter (fun d => !name d), [a0, some (.val (.tuple ds)), a2, none, none, none, none, none]) := by
  rw [lc_pure (items := ds) (fun d => !name d) (fun d => d) (fun d => [a0, some (.val (.tuple ds)), a2, none, none, none, none, some (.val d)]) [a0, some (.val (.tuple ds)), a2, none, none, none, none, none] rfl (by omega) rfl rfl (fun d _ => rfl) (fun d hd => ?_) (fun d _ _ => rfl) (fun d _ => rfl), List.map_id']
  have := e_law_is_name (h d hd)
  have v7 : mVar 7 [a0, some (.val (.tuple ds)), a2, none, none, none, none, some (.val d)] = some (d, [a0, some (.val (.tuple ds)), a2, none, none, none, none, some (.val d)]) := rfl
  simp [this, v7]
theorem lc_rowids {a0 a1 a3 a5 a6 a7 : Option Sl} {s4 : Option D} {ds : List D} (h : ∀ d ∈ ds, pair d = true) (hl : ds.length ≤ 1000) :
    mLc (mIt (mVar 2)) (bName 4) mYes (mBin dIx (mVar 4) (mC (.int 0))) [4] [a0, a1, some (.val (.tuple ds)), a3, slv s4, a5, a6, a7] = some (ds.map fstD, [a0, a1, some (.val (.tuple ds)), a3, slv s4, a5, a6, a7]) := by
  rw [lc_pure (items := ds) (fun _ => true) fstD (fun d => [a0, a1, some (.val (.tuple ds)), a3, some (.val d), a5, a6, a7]) [a0, a1, some (.val (.tuple ds)), a3, none, a5, a6, a7] rfl (by omega) (by cases s4 <;> rfl) (by cases s4 <;> rfl) (fun d _ => rfl) (fun d _ => rfl) (fun d hd _ => ?_) (fun d _ => rfl), filter_true]
  obtain ⟨a, b, rfl⟩ := pair_inv (h d hd)
  simp [fstD]
theorem pairsN_inv {k : Nat} {d : D} (h : pairsN k d = true) : ∃ ds, d = .tuple ds ∧ ds.length ≤ k ∧ ∀ x ∈ ds, pair x = true := by
  cases d with
  | tuple ds =>
    simp only [pairsN, Bool.and_eq_true, decide_eq_true_eq, List.all_eq_true] at h
    exact ⟨ds, rfl, h.1, h.2⟩
  | _ => cases h
theorem rowsOk_pairs {k : Nat} {d : D} (h : pairsN 8 d = false) : rowsOk k d = false := by
  cases d with
  | tuple ds =>
    cases hq : rowsOk k (.tuple ds) with
    | false => rfl
    | true =>
      simp only [rowsOk, Bool.and_eq_true, decide_eq_true_eq, List.all_eq_true] at hq
      have : pairsN 8 (.tuple ds) = true := by
        simp only [pairsN, Bool.and_eq_true, decide_eq_true_eq, List.all_eq_true]
        refine ⟨hq.1.1, fun x hx => ?_⟩
        obtain ⟨a, b, rfl, _⟩ := numRow_inv (hq.1.2 x hx)
        rfl
      rw [this] at h
      cases h
  | _ => rfl
theorem e_law_is_table {W n : Nat} {d : D} (h : fine W n d = true) (hW : W ≤ 1000) (hn : n ≤ 60) : f_law_is_table [d] = some (.val (.bool (table d))) := by
  cases d with
  | tuple ds =>
    obtain ⟨m, rfl, hl, hd⟩ := fine_tup h
    by_cases hp : pair (.tuple ds) = true
    · obtain ⟨a, b, e⟩ := pair_inv hp
      cases e
      have hfa := hd a (by simp)
      have hfb := hd b (by simp)
      cases a with
      | tuple cs =>
        obtain ⟨m', rfl, hlc, hdc⟩ := fine_tup hfa
        have he := dNe_nil (fine_filter (p := fun d => !name d) hdc) (by omega)
        rw [filter_empty] at he
        have l1 := lc_badn (a0 := some (.val (.tuple [.tuple cs, b]))) (a2 := some (.val b)) hdc (by omega)
        have bn : bTup 2 (bCons (bName 1) (bCons (bName 2) bNil)) (.tuple [.tuple cs, b]) [some (.val (.tuple [.tuple cs, b])), none, none, none, none, none, none, none] = some [some (.val (.tuple [.tuple cs, b])), some (.val (.tuple cs)), some (.val b), none, none, none, none, none] := rfl
        have hpr : f_law_are_pairs [b, .int 8] = _ := e_law_are_pairs (most := 8) hfb hW (by omega)
        by_cases c1 : (1 : Int) ≤ cs.length
        · by_cases c2 : (cs.length : Int) ≤ 5
          · have c1' : 1 ≤ cs.length := by omega
            have c2' : cs.length ≤ 5 := by omega
            cases hnm : cs.all name with
            | true =>
              have hr := e_law_rises_t (alike_names hnm) (by omega)
              cases hrs : risesB cs with
              | true =>
                cases hpn : pairsN 8 b with
                | true =>
                  obtain ⟨rs, rfl, hl8, hpp⟩ := pairsN_inv hpn
                  obtain ⟨m2, e2, hlr, hdr⟩ := fine_tup hfb
                  cases e2
                  have loop := tab_loop (a0 := some (.val (.tuple [.tuple cs, .tuple rs]))) (a2 := some (.val (.tuple rs))) (cs := cs) hW (show m' ≤ 60 by omega) (rs := rs) (s3 := none) (s4 := none) (s5 := none) hdr hpp
                  cases hal : rs.all (numRow cs.length) with
                  | true =>
                    obtain ⟨t3, t4, t5, ht⟩ := loop.1 hal
                    have al : Alike (rs.map fstD) := .inl fun d hd => by
                      obtain ⟨x, hx, rfl⟩ := List.mem_map.mp hd
                      obtain ⟨u, v, rfl, q, _⟩ := numRow_inv (List.all_eq_true.mp hal x hx)
                      exact idOk_whole q
                    have hr2 := e_law_rises_l al (by rw [List.length_map]; omega)
                    have l2 := lc_rowids (a0 := some (.val (.tuple [.tuple cs, .tuple rs]))) (a1 := some (.val (.tuple cs))) (a3 := slv t3) (a5 := slv t5) (a6 := none) (a7 := none) (s4 := t4) hpp (by omega)
                    have ht' : forGo (bTup 2 (bCons (bName 3) (bCons (bName 4) bNil))) tabBody rs [some (.val (.tuple [.tuple cs, .tuple rs])), some (.val (.tuple cs)), some (.val (.tuple rs)), none, none, none, none, none] = _ := ht
                    unfold tabBody at ht'
                    simp [f_law_is_table, M_law_is_table, runP_def, startE, bn, c1, c2, l1, he, hnm, hr, hrs, hpr, hpn, ht', l2, hr2, table, cols, rowsOk, c1', c2', hl8, hal]
                  | false =>
                    obtain ⟨e, ht⟩ := loop.2 hal
                    have ht' : forGo (bTup 2 (bCons (bName 3) (bCons (bName 4) bNil))) tabBody rs [some (.val (.tuple [.tuple cs, .tuple rs])), some (.val (.tuple cs)), some (.val (.tuple rs)), none, none, none, none, none] = _ := ht
                    unfold tabBody at ht'
                    simp [f_law_is_table, M_law_is_table, runP_def, startE, bn, c1, c2, l1, he, hnm, hr, hrs, hpr, hpn, ht', table, cols, rowsOk, c1', c2', hl8, hal]
                | false =>
                  simp [f_law_is_table, M_law_is_table, runP_def, startE, bn, c1, c2, l1, he, hnm, hr, hrs, hpr, hpn, table, rowsOk_pairs hpn]
              | false =>
                simp [f_law_is_table, M_law_is_table, runP_def, startE, bn, c1, c2, l1, he, hnm, hr, hrs, table, cols]
            | false =>
              simp [f_law_is_table, M_law_is_table, runP_def, startE, bn, c1, c2, l1, he, hnm, table, cols]
          · have c2' : ¬ cs.length ≤ 5 := by omega
            simp [f_law_is_table, M_law_is_table, runP_def, startE, bn, c1, c2, table, cols, c2']
        · have c1' : ¬ 1 ≤ cs.length := by omega
          have hc : cols (.tuple cs) = false := by simp [cols, c1']
          simp [f_law_is_table, M_law_is_table, runP_def, startE, bn, c1, table, hc]
      | dict k => cases fine_noDict hfa
      | _ => simp [f_law_is_table, M_law_is_table, runP_def, startE, table]
    · have hp' : pair (.tuple ds) = false := by simpa using hp
      have e : ((ds.length : Int) == 2) = false := by
        have : ¬ (ds.length = 2) := fun q => hp (by simp [pair, tupN, q])
        rw [beq_eq_false_iff_ne]
        omega
      simp [f_law_is_table, M_law_is_table, runP_def, startE, e, table_nop hp']
  | dict k => cases n <;> cases h
  | _ => simp [f_law_is_table, M_law_is_table, runP_def, startE, table]
end PB

set_option maxHeartbeats 4000000
namespace PB
open PySem PySem.Spec PyProof.Rows L2

theorem lc_nohouse {ds : List D} {W n : Nat} (h : ∀ d ∈ ds, fine W n d = true) (hp : ∀ d ∈ ds, pair d = true) (hW : W ≤ 1000) (hn : n ≤ 60) (hl : ds.length ≤ 1000) :
    mLc (mIt (mVar 0)) (bName 1) (mOrT (mNotT (mTru (mCall 1 f_law_is_name (mCons (mBin dIx (mVar 1) (mC (.int 0))) mNil)))) (mNotT (mTru (mCall 1 f_law_is_table (mCons (mBin dIx (mVar 1) (mC (.int 1))) mNil))))) (mVar 1) [1] [some (.val (.tuple ds)), none] =
      some (ds.filter (fun d => !house d), [some (.val (.tuple ds)), none]) := by
  rw [lc_pure (items := ds) (fun d => !house d) (fun d => d) (fun d => [some (.val (.tuple ds)), some (.val d)]) [some (.val (.tuple ds)), none] rfl (by omega) rfl rfl (fun d _ => rfl) (fun d hd => ?_) (fun d _ _ => rfl) (fun d _ => rfl), List.map_id']
  obtain ⟨a, b, rfl⟩ := pair_inv (hp d hd)
  obtain ⟨m, rfl, hl, hdd⟩ := fine_tup (h _ hd)
  have h1 := e_law_is_name (hdd a (by simp))
  have h2 := e_law_is_table (hdd b (by simp)) hW (by omega)
  cases hq : name a <;> simp [h1, h2, house, hq]
theorem lc_hnames {ds : List D} (hp : ∀ d ∈ ds, pair d = true) (hl : ds.length ≤ 1000) :
    mLc (mIt (mVar 0)) (bName 1) mYes (mBin dIx (mVar 1) (mC (.int 0))) [1] [some (.val (.tuple ds)), none] = some (ds.map fstD, [some (.val (.tuple ds)), none]) := by
  rw [lc_pure (items := ds) (fun _ => true) fstD (fun d => [some (.val (.tuple ds)), some (.val d)]) [some (.val (.tuple ds)), none] rfl (by omega) rfl rfl (fun d _ => rfl) (fun d _ => rfl) (fun d hd _ => ?_) (fun d _ => rfl), filter_true]
  obtain ⟨a, b, rfl⟩ := pair_inv (hp d hd)
  simp [fstD]
theorem houses_pairs {d : D} (h : pairsN 4 d = false) : houses d = false := by
  cases d with
  | tuple ds =>
    cases hq : houses (.tuple ds) with
    | false => rfl
    | true =>
      simp only [houses, Bool.and_eq_true, decide_eq_true_eq, List.all_eq_true] at hq
      have : pairsN 4 (.tuple ds) = true := by
        simp only [pairsN, Bool.and_eq_true, decide_eq_true_eq, List.all_eq_true]
        refine ⟨hq.1.1.2, fun x hx => ?_⟩
        obtain ⟨a, b, rfl, _⟩ := house_inv (hq.1.2 x hx)
        rfl
      rw [this] at h
      cases h
  | _ => rfl
theorem e_law_good {W n : Nat} {d : D} (h : fine W n d = true) (hW : W ≤ 1000) (hn : n ≤ 60) : f_law_good [d] = some (.val (.bool (houses d))) := by
  have h1 : f_law_are_pairs [d, .int 4] = _ := e_law_are_pairs (most := 4) h hW hn
  cases hp : pairsN 4 d with
  | true =>
    obtain ⟨ds, rfl, hl4, hpp⟩ := pairsN_inv hp
    obtain ⟨m, rfl, hl, hd⟩ := fine_tup h
    have h2 := dEq_unit h hn
    have he := dNe_nil (fine_filter (p := fun d => !house d) hd) (by omega)
    rw [filter_empty] at he
    have l1 := lc_nohouse hd hpp hW (by omega) (by omega)
    cases hemp : ds with
    | nil =>
      subst hemp
      simp [f_law_good, M_law_good, runP_def, startE, h1, hp, h2, houses]
    | cons x xs =>
      have e1 : ds.isEmpty = false := by rw [hemp]; rfl
      have e2 : 1 ≤ ds.length := by rw [hemp, List.length_cons]; omega
      rw [← hemp]
      cases hal : ds.all house with
      | true =>
        have al : Alike (ds.map fstD) := .inr fun d hd => by
          obtain ⟨x, hx, rfl⟩ := List.mem_map.mp hd
          obtain ⟨u, v, rfl, q, _⟩ := house_inv (List.all_eq_true.mp hal x hx)
          exact name_str q
        have hr := e_law_rises_l al (by rw [List.length_map]; omega)
        simp [f_law_good, M_law_good, runP_def, startE, h1, hp, h2, e1, l1, he, hal, lc_hnames hpp (show ds.length ≤ 1000 by omega), hr, houses, e2, hl4]
      | false =>
        simp [f_law_good, M_law_good, runP_def, startE, h1, hp, h2, e1, l1, he, hal, houses]
  | false => simp [f_law_good, M_law_good, runP_def, startE, h1, hp, houses_pairs hp]
/-! ### the two agree -/
theorem sort_bool (b : Bool) : f_law_sort [.bool b] = some (.val (.int 1)) := by simp [f_law_sort, M_law_sort, runP_def, startE]
theorem same_bool (a b : Bool) (n : Nat) : f_law_same (n + 1) [.bool a, .bool b] = some (.val (.bool (a == b))) := by
  simp [f_law_same, M_law_same, runP_def, startE, sort_bool]
end PB

set_option maxHeartbeats 4000000
namespace PB
open PySem PySem.Spec PyProof.Rows L2

/-! ### the deck -/
def DOk (B : Nat) (ds : List D) : Prop := ∃ a b c : Int, ds = [.int a, .int b, .int c] ∧ 0 ≤ a ∧ 0 ≤ b ∧ b < 2147483579 ∧ 0 ≤ c ∧ c ≤ B
theorem DOk.mono {B C : Nat} {ds : List D} (h : DOk B ds) (hc : B ≤ C) : DOk C ds := by
  obtain ⟨a, b, c, h1, h2, h3, h4, h5, h6⟩ := h
  exact ⟨a, b, c, h1, h2, h3, h4, h5, by omega⟩
theorem ix3_0 : ixN 3 0 = some 0 := by decide
theorem ix3_2 : ixN 3 2 = some 2 := by decide
theorem at2 {x y d : D} {r : List D} : atI (x :: y :: d :: r) 2 = some d := by
  have : atI (x :: y :: d :: r) ((2 : Nat) : Int) = some d := atI_nat rfl
  exact this
theorem pick_ok {B : Nat} {ds0 : List D} {k : Int} (h : DOk B ds0) (hB : B ≤ 1000000000) (h0 : 0 < k) (h1 : k < 1073741824) :
    ∃ r ds1, f_law_pick ds0 [.int k] = some (.val (.int r), ds1) ∧ 0 ≤ r ∧ r < k ∧ DOk (B + 1) ds1 := by
  obtain ⟨a, b, c, rfl, ha, hb, hb2, hc, hc2⟩ := h
  by_cases hq : 1 < a
  · refine ⟨a % k, [.int (a / k), .int b, .int c], ?_, Int.emod_nonneg a (by omega), Int.emod_lt_of_pos a h0, a / k, b, c, rfl, Int.ediv_nonneg ha (by omega), hb, hb2, hc, by omega⟩
    simp [f_law_pick, M_law_pick, runK, startK, mIxOwn, sSetOwn, hq, dMod, dFdiv, iOp, h0, h1, bName, isPar, ix3_0]
  · have p1 : (b + 15485867 * (c + 1)).natAbs < 18446744073709551616 := by omega
    have n1 : 0 ≤ (b + 15485867 * (c + 1)) ^ 5 % 2147483647 := Int.emod_nonneg _ (by decide)
    have n2 : (b + 15485867 * (c + 1)) ^ 5 % 2147483647 < 2147483647 := Int.emod_lt_of_pos _ (by decide)
    have p2 : ((b + 15485867 * (c + 1)) ^ 5 % 2147483647 + 7919 * (c + 1)).natAbs < 18446744073709551616 := by omega
    refine ⟨((b + 15485867 * (c + 1)) ^ 5 % 2147483647 + 7919 * (c + 1)) ^ 3 % 2147483629 / 32 % k, [.int a, .int b, .int (c + 1)], ?_, Int.emod_nonneg _ (by omega), Int.emod_lt_of_pos _ h0, a, b, c + 1, rfl, ha, hb, hb2, by omega, by omega⟩
    simp [f_law_pick, M_law_pick, runK, startK, mIxOwn, sSetOwn, hq, dMod, dFdiv, dMul, dPow, iOp, h0, bName, isPar, ix3_2, at2, p1, p2]
theorem deck_ok (z : Int) : ∃ ds, f_law_deck [.int z, .int 1] = some (.new ds) ∧ DOk 1 ds := by
  have n1 : 0 ≤ z % 2147483579 := Int.emod_nonneg _ (by decide)
  have n2 : z % 2147483579 < 2147483579 := Int.emod_lt_of_pos _ (by decide)
  by_cases h : (1000000000000000000 : Int) ≤ z
  · refine ⟨[.int (z - 1000000000000000000), .int (z % 2147483579), .int 1], ?_, _, _, _, rfl, by omega, n1, n2, by omega, by omega⟩
    simp [f_law_deck, M_law_deck, runP_def, startE, dPow, dMod, iOp, h, szOk]
  · refine ⟨[.int 0, .int (z % 2147483579), .int 1], ?_, _, _, _, rfl, by omega, n1, n2, by omega, by omega⟩
    simp [f_law_deck, M_law_deck, runP_def, startE, dPow, dMod, iOp, h, szOk]
/-- a pick within an expression -/
theorem en_pick {e : Sg} (i : Nat) {b0 : Bool} {dd : List D} {m : ML} {P : D → Sg → Prop} {B : Nat} {k : Int} (h0 : e[i]? = some (some (.own b0 dd))) (hd : DOk B dd) (hB : B ≤ 1000000000) (hk0 : 0 < k) (hk1 : k < 1073741824) (hm : m e = some ([.int k], e))
    (h : ∀ (r : Int) (ds1 : List D), 0 ≤ r → r < k → DOk (B + 1) ds1 → P (.int r) (e.set i (some (.own b0 ds1)))) : Ens (mCallK i 2 f_law_pick m) e P := by
  obtain ⟨r, ds1, q1, q2, q3, q4⟩ := pick_ok hd hB hk0 hk1
  exact en_CallK i h0 ⟨[.int k], e, hm, rfl, b0, dd, _, ds1, h0, q1, h r ds1 q2 q3 q4⟩
theorem one_ok {B : Nat} {ds0 xs : List D} (h : DOk B ds0) (hB : B ≤ 1000000000) (h0 : 0 < xs.length) (h1 : xs.length ≤ 1000) : ∃ d ds1, f_law_one ds0 [.list xs] = some (.val d, ds1) ∧ d ∈ xs ∧ DOk (B + 1) ds1 := by
  have := runK_ens (n := 2) (M := M_law_one) (ds0 := ds0) (ds := [.list xs]) (R := fun r ds1 => ∃ d, r = .val d ∧ d ∈ xs ∧ DOk (B + 1) ds1) ?_
  · obtain ⟨r, ds1, q1, d, rfl, q2, q3⟩ := this
    exact ⟨d, ds1, q1, q2, q3⟩
  · unfold M_law_one
    refine es_Ret (en_Bin (en_Var (d := .list xs) 1 rfl (en_pick 0 (dd := ds0) rfl h hB (k := xs.length) (by omega) (by omega) (by simp [startK]) fun r ds1 r0 r1 hd => ?_)))
    obtain ⟨j, hj⟩ : ∃ j : Nat, r = j := ⟨r.toNat, by omega⟩
    subst hj
    have hj : j < xs.length := by omega
    refine ⟨xs[j], atI_nat (List.getElem?_eq_getElem hj), ds1, rfl, _, rfl, xs[j], rfl, List.getElem_mem _, hd⟩
theorem fine_mono {W V : Nat} (hW : W ≤ V) : ∀ {n m : Nat} {d : D}, n ≤ m → fine W n d = true → fine V m d = true := by
  intro n
  induction n with
  | zero =>
    intro m d hm h
    cases d <;> first | (cases m <;> rfl) | (cases h; done) | skip
    · cases m <;> (simp [fine] at h ⊢; omega)
    · cases m <;> simpa [fine] using h
  | succ n ih =>
    intro m d hm h
    obtain ⟨k, rfl⟩ : ∃ k, m = k + 1 := ⟨m - 1, by omega⟩
    cases d with
    | none => rfl
    | bool b => rfl
    | int i =>
      simp [fine] at h ⊢
      omega
    | str s => simpa [fine] using h
    | list ds =>
      simp only [fine, Bool.and_eq_true, decide_eq_true_eq, List.all_eq_true] at h ⊢
      exact ⟨by omega, fun x hx => ih (by omega) (h.2 x hx)⟩
    | tuple ds =>
      simp only [fine, Bool.and_eq_true, decide_eq_true_eq, List.all_eq_true] at h ⊢
      exact ⟨by omega, fun x hx => ih (by omega) (h.2 x hx)⟩
    | dict k => cases h
theorem odd_ok {B : Nat} {ds0 : List D} (h : DOk B ds0) (hB : B ≤ 1000000000) : ∃ d ds1, f_law_odd ds0 [] = some (.val d, ds1) ∧ fine 9 6 d = true ∧ DOk (B + 1) ds1 := by
  have := runK_ens (n := 2) (M := M_law_odd) (ds0 := ds0) (ds := []) (R := fun r ds1 => ∃ d, r = .val d ∧ fine 9 6 d = true ∧ DOk (B + 1) ds1) ?_
  · obtain ⟨r, ds1, q1, d, rfl, q2, q3⟩ := this
    exact ⟨d, ds1, q1, q2, q3⟩
  · unfold M_law_odd
    have ev : (mNew (mSz (mCons (mC .none) (mCons (mC (.bool true)) (mCons (mC (.str "")) (mCons (mC (.str "a")) (mCons (mTup mNil) (mCons (mNew (mSz mNil)) (mCons (mTup (mCons (mTup mNil) mNil)) (mCons (mC (.int 7)) (mCons (mUn dNeg (mC (.int 1))) (mCons (mTup (mCons (mC (.str "zz")) (mCons (mC (.str "a")) mNil))) (mCons (mTup (mCons (mC (.str "zz")) (mCons (mC (.int 1)) mNil))) (mCons (mBin dPow (mC (.int 10)) (mC (.int 30))) (mCons (mTup (mCons (mC (.str "ann")) (mCons (mC (.bool true)) mNil))) (mCons (mTup (mCons (mC (.int 1)) (mCons (mC (.int 2)) mNil))) (mCons (mC (.str "A")) mNil))))))))))))))))) (startK 2 ds0 []) =
      some (.list [.none, .bool true, .str "", .str "a", .tuple [], .list [], .tuple [.tuple []], .int 7, .int (-1), .tuple [.str "zz", .str "a"], .tuple [.str "zz", .int 1], .int (10 ^ 30), .tuple [.str "ann", .bool true], .tuple [.int 1, .int 2], .str "A"], startK 2 ds0 []) := by
      simp [szOk, dPow, iOp]
    refine es_Seq (es_Asg ⟨_, _, ev, _, rfl, ?_⟩)
    refine es_Ret (en_CallK 0 (dd := ds0) (b0 := true) rfl ?_)
    refine en_Cons (en_Var 1 rfl (en_Nil ⟨rfl, true, ds0, ?_⟩))
    obtain ⟨d, ds1, q1, q2, q3⟩ := one_ok h hB (xs := [.none, .bool true, .str "", .str "a", .tuple [], .list [], .tuple [.tuple []], .int 7, .int (-1), .tuple [.str "zz", .str "a"], .tuple [.str "zz", .int 1], .int (10 ^ 30), .tuple [.str "ann", .bool true], .tuple [.int 1, .int 2], .str "A"]) (by decide) (by decide)
    refine ⟨_, ds1, rfl, q1, ds1, rfl, _, rfl, d, rfl, ?_, q3⟩
    have all : ([.none, .bool true, .str "", .str "a", .tuple [], .list [], .tuple [.tuple []], .int 7, .int (-1), .tuple [.str "zz", .str "a"], .tuple [.str "zz", .int 1], .int (10 ^ 30), .tuple [.str "ann", .bool true], .tuple [.int 1, .int 2], .str "A"] : List D).all (fine 9 6) = true := by decide +kernel
    exact List.all_eq_true.mp all d q2
theorem worth_ok {B : Nat} {ds0 : List D} (h : DOk B ds0) (hB : B ≤ 999999000) : ∃ d ds1, f_law_worth ds0 [] = some (.val d, ds1) ∧ fine 1 0 d = true ∧ DOk (B + 2) ds1 := by
  have := runK_ens (n := 1) (M := M_law_worth) (ds0 := ds0) (ds := []) (R := fun r ds1 => ∃ d, r = .val d ∧ fine 1 0 d = true ∧ DOk (B + 2) ds1) ?_
  · obtain ⟨r, ds1, q1, d, rfl, q2, q3⟩ := this
    exact ⟨d, ds1, q1, q2, q3⟩
  · unfold M_law_worth
    refine es_Ret (en_CallK 0 (dd := ds0) (b0 := true) rfl ?_)
    refine en_Cons (en_New (en_Sz (en_Cons (en_C (en_Cons (en_C (en_Cons (en_C (en_Cons (en_C (en_Cons (en_C (en_Cons (en_C (en_Cons (en_C (en_Cons (en_C (en_Cons (en_Bin (en_pick 0 (dd := ds0) rfl h (by omega) (k := 2001) (by decide) (by decide) (by simp) fun r ds1 r0 r1 hd => ?_)))))))))))))))))))))
    refine en_C ⟨.int (r - 1000), rfl, en_Nil ⟨by simp, en_Nil ⟨rfl, true, ds1, ?_⟩⟩⟩
    obtain ⟨d, ds2, q1, q2, q3⟩ := one_ok hd (by omega) (xs := [.none, .int 1, .int 2, .int 3, .int 1, .int 2, .str "red", .str "blue", .int (r - 1000)]) (by simp) (by simp)
    refine ⟨_, ds2, rfl, q1, ds2, rfl, _, rfl, d, rfl, ?_, q3⟩
    simp only [List.mem_cons, List.not_mem_nil, or_false] at q2
    have big : (r - 1000).natAbs ≤ 10 ^ 31 + 1 := Nat.le_trans (show (r - 1000).natAbs ≤ 2000 by omega) (by decide)
    rcases q2 with rfl | rfl | rfl | rfl | rfl | rfl | rfl | rfl | rfl
    · rfl
    · rfl
    · rfl
    · rfl
    · rfl
    · rfl
    · decide +kernel
    · decide +kernel
    · exact decide_eq_true big
end PB

set_option maxHeartbeats 4000000
namespace PB
open PySem PySem.Spec PyProof.Rows L2

theorem strOk_of (s : String) : PyData.strOk (Str.ofString s) = true := by
  unfold PyData.strOk
  rw [PySem.Str.ofString_eq_toList]
  simp only [Array.all_eq_true_iff_forall_mem, List.mem_toArray, List.mem_map]
  rintro c ⟨ch, _, rfl⟩
  refine decide_eq_true ?_
  have := ch.valid
  unfold UInt32.isValidChar Nat.isValidChar at this
  have e : ch.toNat = ch.val.toNat := rfl
  rw [e]
  omega
theorem fine_strE {W n : Nat} {s : Str} : fine W n (.str s) = (decide (s.length ≤ 2000) && PyData.strOk s) := by cases n <;> rfl
theorem fine_text {W n : Nat} {i : Int} (h : i.natAbs.log2 < 1920) : fine W n (.str (toString i)) = true := by
  have h1 := PyProof.Rows.int_text_len_1921 h
  have h2 : PyData.strOk (Str.ofString (toString i)) = true := strOk_of _
  rw [fine_strE, h2, decide_eq_true (show (Str.ofString (toString i)).length ≤ 2000 by omega)]
  rfl
theorem log_small {i : Int} {W : Nat} (h : i.natAbs ≤ 10 ^ 31 + W) (hW : W ≤ 1000) : i.natAbs.log2 < 1920 := by
  by_cases h0 : i.natAbs = 0
  · rw [h0]
    decide
  · rw [Nat.log2_lt h0]
    exact Nat.lt_of_le_of_lt h (Nat.lt_of_le_of_lt (Nat.add_le_add_left hW _) (by decide +kernel))
/-- one of a written list, at a place that is picked -/
theorem at_some {xs : List D} {r : Int} (h0 : 0 ≤ r) (h1 : r < xs.length) : ∃ d, atI xs r = some d ∧ d ∈ xs := by
  obtain ⟨j, hj⟩ : ∃ j : Nat, r = j := ⟨r.toNat, by omega⟩
  subst hj
  have hj : j < xs.length := by omega
  exact ⟨xs[j], atI_nat (List.getElem?_eq_getElem hj), List.getElem_mem _⟩
theorem ix_some {n : Nat} {r : Int} (h0 : 0 ≤ r) (h1 : r < n) : ixN n r = some r.toNat := by
  unfold ixN
  rw [if_pos h0, if_pos h1]
def SpOk (n : Nat) (fr : Fk) : Prop := ∀ (W B : Nat) (ds0 : List D) (d : D), DOk B ds0 → B ≤ 900000000 → W ≤ 900 → fine W n d = true → ∃ d' ds1, fr ds0 [d] = some (.val d', ds1) ∧ fine (W + 1) n d' = true ∧ DOk (B + 2 * n + 2) ds1
/-- a list or a tuple of these -/
def seqD (tup : Bool) (ds : List D) : D := if tup = true then .tuple ds else .list ds
theorem fine_seq {W n : Nat} {tup : Bool} {ds : List D} : fine W (n + 1) (seqD tup ds) = (decide (ds.length ≤ W) && ds.all (fine W n)) := by
  cases tup <;> rfl
theorem set_mem {ds : List D} {j : Nat} {x d : D} (h : d ∈ ds.set j x) : d ∈ ds ∨ d = x := List.mem_or_eq_of_mem_set h
theorem spoilt_leaf {B n : Nat} {ds0 : List D} {d : D} {fr : Fk} {W : Nat} (h : DOk B ds0) (hB : B ≤ 900000000) (hW : W ≤ 900) (hd : fine W n d = true) (hs : isTup d = false) (hl : isLst d = false) :
    ∃ d' ds1, runK 5 (M_law_spoilt fr) ds0 [d] = some (.val d', ds1) ∧ fine (W + 1) n d' = true ∧ DOk (B + 2) ds1 := by
  have := runK_ens (n := 5) (M := M_law_spoilt fr) (ds0 := ds0) (ds := [d]) (R := fun r ds1 => ∃ d', r = .val d' ∧ fine (W + 1) n d' = true ∧ DOk (B + 2) ds1) ?_
  · obtain ⟨r, ds1, q1, d', rfl, q2, q3⟩ := this
    exact ⟨d', ds1, q1, q2, q3⟩
  · have hnd := fine_noDict hd
    have t2 : mTru (mIsi2 "tuple" "list" (mVar 1)) (startK 5 ds0 [d]) = some (false, startK 5 ds0 [d]) := by
      cases d <;> first | (cases hs; done) | (cases hl; done) | (cases hnd; done) | simp [startK, kitB2]
    unfold M_law_spoilt
    refine es_Seq (es_If (en_AndT ⟨false, _, t2, ?_⟩))
    refine es_Skip (es_Seq (es_If ⟨false, _, t2, es_Skip ?_⟩))
    cases d with
    | tuple x => cases hs
    | list x => cases hl
    | dict x => cases hnd
    | int i =>
      have hi : i.natAbs ≤ 10 ^ 31 + W := by
        cases n <;> simpa [fine] using hd
      have lg := log_small hi (by omega)
      refine es_Seq (es_If ⟨true, startK 5 ds0 [.int i], by simp [startK], ?_⟩)
      have ev : (mNew (mSz (mCons (mBin dAdd (mVar 1) (mC (.int 1))) (mCons (mBin dSub (mVar 1) (mC (.int 1))) (mCons (mC (.bool true)) (mCons (mC .none) (mCons (mC (.int 1000)) (mCons (mBin dAdd (mBin dPow (mC (.int 10)) (mC (.int 6))) (mC (.int 1))) (mCons (mCB fStr (mCons (mVar 1) mNil)) mNil))))))))) (startK 5 ds0 [.int i]) = some (.list [.int (i + 1), .int (i - 1), .bool true, .none, .int 1000, .int 1000001, .str (toString i)], startK 5 ds0 [.int i]) := by
        simp [startK, szOk, dPow, iOp, fStr, lg]
      refine es_Ret (en_Bin ⟨_, _, ev, en_pick 0 (dd := ds0) (b0 := true) rfl h (by omega) (k := 7) (by decide) (by decide) rfl fun r ds1 r0 r1 hd1 => ?_⟩)
      obtain ⟨z, hz, hm⟩ := at_some (xs := [.int (i + 1), .int (i - 1), .bool true, .none, .int 1000, .int 1000001, .str (toString i)]) r0 (by simpa using r1)
      refine ⟨z, hz, ds1, rfl, _, rfl, z, rfl, ?_, hd1.mono (by omega)⟩
      have b1 : (i + 1).natAbs ≤ 10 ^ 31 + (W + 1) := by omega
      have b2 : (i - 1).natAbs ≤ 10 ^ 31 + (W + 1) := by omega
      simp only [List.mem_cons, List.not_mem_nil, or_false] at hm
      rcases hm with rfl | rfl | rfl | rfl | rfl | rfl | rfl
      · cases n <;> exact decide_eq_true b1
      · cases n <;> exact decide_eq_true b2
      · cases n <;> rfl
      · cases n <;> rfl
      · cases n <;> (simp [fine] <;> omega)
      · cases n <;> (simp [fine] <;> omega)
      · exact fine_text lg
    | bool k =>
      refine es_Seq (es_If ⟨true, startK 5 ds0 [.bool k], by simp [startK], ?_⟩)
      have ev : (mNew (mSz (mCons (mBin dAdd (mVar 1) (mC (.int 1))) (mCons (mBin dSub (mVar 1) (mC (.int 1))) (mCons (mC (.bool true)) (mCons (mC .none) (mCons (mC (.int 1000)) (mCons (mBin dAdd (mBin dPow (mC (.int 10)) (mC (.int 6))) (mC (.int 1))) (mCons (mCB fStr (mCons (mVar 1) mNil)) mNil))))))))) (startK 5 ds0 [.bool k]) = some (.list [.int (b01 k + 1), .int (b01 k - 1), .bool true, .none, .int 1000, .int 1000001, .str (if k then "True" else "False")], startK 5 ds0 [.bool k]) := by
        simp [startK, szOk, dPow, iOp, fStr, dAdd, dSub]
      refine es_Ret (en_Bin ⟨_, _, ev, en_pick 0 (dd := ds0) (b0 := true) rfl h (by omega) (k := 7) (by decide) (by decide) rfl fun r ds1 r0 r1 hd1 => ?_⟩)
      obtain ⟨z, hz, hm⟩ := at_some (xs := [.int (b01 k + 1), .int (b01 k - 1), .bool true, .none, .int 1000, .int 1000001, .str (if k then "True" else "False")]) r0 (by simpa using r1)
      refine ⟨z, hz, ds1, rfl, _, rfl, z, rfl, ?_, hd1.mono (by omega)⟩
      simp only [List.mem_cons, List.not_mem_nil, or_false] at hm
      have fs : ∀ (s : String), (Str.ofString s).length ≤ 2000 → fine (W + 1) n (.str (Str.ofString s)) = true := by
        intro s hs
        have := strOk_of s
        cases n <;> simp [fine, hs, this]
      rcases hm with rfl | rfl | rfl | rfl | rfl | rfl | rfl
      · cases k <;> cases n <;> (simp [fine, b01] <;> omega)
      · cases k <;> cases n <;> (simp [fine, b01] <;> omega)
      · cases n <;> rfl
      · cases n <;> rfl
      · cases n <;> (simp [fine] <;> omega)
      · cases n <;> (simp [fine] <;> omega)
      · cases k
        · exact fs _ (by decide +kernel)
        · exact fs _ (by decide +kernel)
    | none =>
      refine es_Seq (es_If ⟨false, startK 5 ds0 [.none], by simp [startK], es_Skip ?_⟩)
      have ev : (mNew (mSz (mCons (mC .none) (mCons (mC (.int 7)) (mCons (mC (.str "n")) (mCons (mC (.str "")) (mCons (mC (.str "A")) (mCons (mC (.str "abcdefghi")) (mCons (mC (.str "first")) (mCons (mC (.str "is")) mNil)))))))))) (startK 5 ds0 [.none]) = some (.list [.none, .int 7, .str "n", .str "", .str "A", .str "abcdefghi", .str "first", .str "is"], startK 5 ds0 [.none]) := by
        simp [szOk]
      refine es_Ret (en_Bin ⟨_, _, ev, en_pick 0 (dd := ds0) (b0 := true) rfl h (by omega) (k := 8) (by decide) (by decide) rfl fun r ds1 r0 r1 hd1 => ?_⟩)
      obtain ⟨z, hz, hm⟩ := at_some (xs := [.none, .int 7, .str "n", .str "", .str "A", .str "abcdefghi", .str "first", .str "is"]) r0 (by simpa using r1)
      refine ⟨z, hz, ds1, rfl, _, rfl, z, rfl, ?_, hd1.mono (by omega)⟩
      have all : ([.none, .int 7, .str "n", .str "", .str "A", .str "abcdefghi", .str "first", .str "is"] : List D).all (fine 0 0) = true := by decide +kernel
      exact fine_mono (by omega) (by omega) (List.all_eq_true.mp all z hm)
    | str s =>
      refine es_Seq (es_If ⟨false, startK 5 ds0 [.str s], by simp [startK], es_Skip ?_⟩)
      have ev : (mNew (mSz (mCons (mC .none) (mCons (mC (.int 7)) (mCons (mC (.str "n")) (mCons (mC (.str "")) (mCons (mC (.str "A")) (mCons (mC (.str "abcdefghi")) (mCons (mC (.str "first")) (mCons (mC (.str "is")) mNil)))))))))) (startK 5 ds0 [.str s]) = some (.list [.none, .int 7, .str "n", .str "", .str "A", .str "abcdefghi", .str "first", .str "is"], startK 5 ds0 [.str s]) := by
        simp [szOk]
      refine es_Ret (en_Bin ⟨_, _, ev, en_pick 0 (dd := ds0) (b0 := true) rfl h (by omega) (k := 8) (by decide) (by decide) rfl fun r ds1 r0 r1 hd1 => ?_⟩)
      obtain ⟨z, hz, hm⟩ := at_some (xs := [.none, .int 7, .str "n", .str "", .str "A", .str "abcdefghi", .str "first", .str "is"]) r0 (by simpa using r1)
      refine ⟨z, hz, ds1, rfl, _, rfl, z, rfl, ?_, hd1.mono (by omega)⟩
      have all : ([.none, .int 7, .str "n", .str "", .str "A", .str "abcdefghi", .str "first", .str "is"] : List D).all (fine 0 0) = true := by decide +kernel
      exact fine_mono (by omega) (by omega) (List.all_eq_true.mp all z hm)
end PB

set_option maxHeartbeats 4000000
namespace PB
open PySem PySem.Spec PyProof.Rows L2

section
variable {tup : Bool} {ds : List D} {e : Sg}
theorem sq_isi2 (h : e[1]? = some (some (.val (seqD tup ds)))) : mTru (mIsi2 "tuple" "list" (mVar 1)) e = some (true, e) := by
  cases tup <;> simp [ev_Var h, seqD, kitB2]
theorem sq_isiT (h : e[1]? = some (some (.val (seqD tup ds)))) : mTru (mIsi "tuple" (mVar 1)) e = some (tup, e) := by
  cases tup <;> simp [ev_Var h, seqD]
theorem sq_len (h : e[1]? = some (some (.val (seqD tup ds)))) : mCB fLen (mCons (mVar 1) mNil) e = some (.int ds.length, e) := by
  cases tup <;> simp [ev_Var h, seqD]
theorem sq_list (h : e[1]? = some (some (.val (seqD tup ds)))) : mListOf (mVar 1) e = some (ds, e) := by
  cases tup <;> simp [ev_Var h, seqD]
theorem sq_tuple (h : e[1]? = some (some (.val (seqD tup ds)))) : mCB fTuple (mCons (mVar 1) mNil) e = some (.tuple ds, e) := by
  cases tup <;> simp [ev_Var h, seqD]
theorem cutD_to1 (ds : List D) : cutD ds none (some 1) = ds.take 1 := by
  unfold cutD
  rw [show HT.sIx ds.length ds.length (some 1) = min 1 ds.length from HT.sIx_nat ds.length ds.length 1, HT.sIx_none]
  cases ds with
  | nil => rfl
  | cons x r =>
    rw [show min 1 (x :: r).length = 1 by rw [List.length_cons]; omega]
    rfl
theorem sq_more (h : e[1]? = some (some (.val (seqD tup ds)))) (hl : ds.length ≤ 1000) : mBin dAdd (mVar 1) (mSl (mVar 1) mNoPart (mPart (mC (.int 1)))) e = some (seqD tup (ds ++ ds.take 1), e) := by
  have hz : szOk (ds.length + min 1 ds.length) = true := decide_eq_true (by omega)
  cases tup <;> simp [ev_Var h, seqD, dSl, cutD_to1, dAdd, hz]
theorem sq_tail (h : e[1]? = some (some (.val (seqD tup ds)))) : mSl (mVar 1) (mPart (mC (.int 1))) mNoPart e = some (seqD tup (ds.drop 1), e) := by
  cases tup <;> simp [ev_Var h, seqD, dSl, cutD1]
theorem sq_rev (h : e[1]? = some (some (.val (seqD tup ds)))) : mUn dRev (mVar 1) e = some (seqD tup ds.reverse, e) := by
  cases tup <;> simp [ev_Var h, seqD, dRev]
end
theorem fine_sq {W n : Nat} {tup : Bool} {ds : List D} (h1 : ds.length ≤ W) (h2 : ∀ d ∈ ds, fine W n d = true) : fine W (n + 1) (seqD tup ds) = true := by
  rw [fine_seq, decide_eq_true h1, Bool.true_and, List.all_eq_true]
  exact h2
theorem spoilt_seq {B n W : Nat} {ds0 ds : List D} {tup : Bool} {fr : Fk} (h : DOk B ds0) (hB : B ≤ 900000000 - 2 * (n + 1)) (hW : W ≤ 900) (hd : fine W (n + 1) (seqD tup ds) = true) (hn : n ≤ 50)
    (hr : ∀ (W B : Nat) (ds0 : List D) (d : D), DOk B ds0 → B ≤ 900000000 - 2 * n → W ≤ 900 → fine W n d = true → ∃ d' ds1, fr ds0 [d] = some (.val d', ds1) ∧ fine (W + 1) n d' = true ∧ DOk (B + 2 * n + 2) ds1) :
    ∃ d' ds1, runK 5 (M_law_spoilt fr) ds0 [seqD tup ds] = some (.val d', ds1) ∧ fine (W + 1) (n + 1) d' = true ∧ DOk (B + 2 * (n + 1) + 2) ds1 := by
  have hh := hd
  rw [fine_seq, Bool.and_eq_true, decide_eq_true_eq, List.all_eq_true] at hh
  obtain ⟨hlen, hall⟩ := hh
  have := runK_ens (n := 5) (M := M_law_spoilt fr) (ds0 := ds0) (ds := [seqD tup ds]) (R := fun r ds1 => ∃ d', r = .val d' ∧ fine (W + 1) (n + 1) d' = true ∧ DOk (B + 2 * (n + 1) + 2) ds1) ?_
  · obtain ⟨r, ds1, q1, d', rfl, q2, q3⟩ := this
    exact ⟨d', ds1, q1, q2, q3⟩
  · unfold M_law_spoilt
    have up : ∀ d ∈ ds, fine (W + 1) n d = true := fun d hd => fine_mono (by omega) (Nat.le_refl _) (hall d hd)
    -- the second part, whatever the deck is
    have part2 : ∀ (dd : List D) (C : Nat), DOk C dd → C ≤ B + 1 → Ens (sSeq (sIf (mTru (mIsi2 "tuple" "list" (mVar 1))) (sSeq (sAsg (mIfE (mTru (mIsi "tuple" (mVar 1))) (mNew (mListOf (mVar 1))) (mCB fTuple (mCons (mVar 1) mNil))) (bName 4))
        (sRet (mBin dIx (mNew (mSz (mCons (mVar 4) (mCons (mBin dAdd (mVar 1) (mSl (mVar 1) mNoPart (mPart (mC (.int 1))))) (mCons (mSl (mVar 1) (mPart (mC (.int 1))) mNoPart) (mCons (mUn dRev (mVar 1)) (mCons (mC .none) mNil))))))) (mCallK 0 2 f_law_pick (mCons (mC (.int 5)) mNil))))) sSkip)
        (sSeq (sIf (mTru (mIsi "int" (mVar 1))) (sRet (mBin dIx (mNew (mSz (mCons (mBin dAdd (mVar 1) (mC (.int 1))) (mCons (mBin dSub (mVar 1) (mC (.int 1))) (mCons (mC (.bool true)) (mCons (mC .none) (mCons (mC (.int 1000)) (mCons (mBin dAdd (mBin dPow (mC (.int 10)) (mC (.int 6))) (mC (.int 1))) (mCons (mCB fStr (mCons (mVar 1) mNil)) mNil))))))))) (mCallK 0 2 f_law_pick (mCons (mC (.int 7)) mNil)))) sSkip)
        (sRet (mBin dIx (mNew (mSz (mCons (mC .none) (mCons (mC (.int 7)) (mCons (mC (.str "n")) (mCons (mC (.str "")) (mCons (mC (.str "A")) (mCons (mC (.str "abcdefghi")) (mCons (mC (.str "first")) (mCons (mC (.str "is")) mNil)))))))))) (mCallK 0 2 f_law_pick (mCons (mC (.int 8)) mNil)))))) [some (.own true dd), some (.val (seqD tup ds)), none, none, none]
        (fun o e => ∃ ds1, e[0]? = some (some (.own true ds1)) ∧ ∃ r, o = .ret r ∧ ∃ d', r = .val d' ∧ fine (W + 1) (n + 1) d' = true ∧ DOk (B + 2 * (n + 1) + 2) ds1) := by
      intro dd C hC hCB
      refine es_Seq (es_If ⟨true, _, sq_isi2 rfl, ?_⟩)
      refine es_Seq (es_Asg (a := mIfE (mTru (mIsi "tuple" (mVar 1))) (mNew (mListOf (mVar 1))) (mCB fTuple (mCons (mVar 1) mNil))) ⟨seqD (!tup) ds, [some (.own true dd), some (.val (seqD tup ds)), none, none, none], ?_, _, rfl, ?_⟩)
      · have e1 := sq_isiT (tup := tup) (ds := ds) (e := [some (.own true dd), some (.val (seqD tup ds)), none, none, none]) rfl
        have e2 := sq_list (tup := tup) (ds := ds) (e := [some (.own true dd), some (.val (seqD tup ds)), none, none, none]) rfl
        have e3 := sq_tuple (tup := tup) (ds := ds) (e := [some (.own true dd), some (.val (seqD tup ds)), none, none, none]) rfl
        rw [ev_IfE, e1]
        cases tup with
        | true =>
          simp only [Option.bind_some, if_true]
          rw [ev_New, e2]
          rfl
        | false =>
          simp only [Option.bind_some]
          rw [if_neg Bool.false_ne_true, e3]
          rfl
      · have E : ([some (.own true dd), some (.val (seqD tup ds)), none, none, some (.val (seqD (!tup) ds))] : Sg)[1]? = some (some (.val (seqD tup ds))) := rfl
        have ev : (mNew (mSz (mCons (mVar 4) (mCons (mBin dAdd (mVar 1) (mSl (mVar 1) mNoPart (mPart (mC (.int 1))))) (mCons (mSl (mVar 1) (mPart (mC (.int 1))) mNoPart) (mCons (mUn dRev (mVar 1)) (mCons (mC .none) mNil))))))) [some (.own true dd), some (.val (seqD tup ds)), none, none, some (.val (seqD (!tup) ds))] =
            some (.list [seqD (!tup) ds, seqD tup (ds ++ ds.take 1), seqD tup (ds.drop 1), seqD tup ds.reverse, .none], [some (.own true dd), some (.val (seqD tup ds)), none, none, some (.val (seqD (!tup) ds))]) := by
          simp only [ev_New, ev_Sz, ev_Cons, sq_more E (show ds.length ≤ 1000 by omega), sq_tail E, sq_rev E, ev_Var4, ev_C, ev_Nil, Option.bind_some, Option.map_some]
          rfl
        refine es_Ret (en_Bin ⟨_, _, ev, en_pick 0 (dd := dd) (b0 := true) rfl hC (by omega) (k := 5) (by decide) (by decide) rfl fun r ds1 r0 r1 hd1 => ?_⟩)
        obtain ⟨z, hz, hm⟩ := at_some (xs := [seqD (!tup) ds, seqD tup (ds ++ ds.take 1), seqD tup (ds.drop 1), seqD tup ds.reverse, .none]) r0 (by simpa using r1)
        refine ⟨z, hz, ds1, rfl, _, rfl, z, rfl, ?_, hd1.mono (by omega)⟩
        simp only [List.mem_cons, List.not_mem_nil, or_false] at hm
        rcases hm with rfl | rfl | rfl | rfl | rfl
        · exact fine_sq (by omega) up
        · refine fine_sq ?_ fun d hd => ?_
          · rw [List.length_append, List.length_take]
            omega
          · rcases List.mem_append.mp hd with q | q
            · exact up d q
            · exact up d (List.mem_of_mem_take q)
        · refine fine_sq ?_ fun d hd => up d (List.mem_of_mem_drop hd)
          rw [List.length_drop]
          omega
        · refine fine_sq ?_ fun d hd => up d (List.mem_reverse.mp hd)
          rw [List.length_reverse]
          omega
        · rfl
    refine es_Seq (es_If (en_AndT ⟨true, _, sq_isi2 rfl, ?_⟩))
    refine en_AndT (en_B (en_Bin ⟨_, _, sq_len rfl, en_C ⟨.bool (decide ((0 : Int) < ds.length)), rfl, decide ((0 : Int) < ds.length), rfl, ?_⟩⟩))
    by_cases hne : (0 : Int) < ds.length
    · rw [decide_eq_true hne]
      refine en_B (en_Bin (en_pick 0 (dd := ds0) (b0 := true) rfl h (by omega) (k := 5) (by decide) (by decide) rfl fun r ds1 r0 r1 hd1 => en_C ⟨.bool (decide ((0 : Int) < r)), rfl, decide ((0 : Int) < r), rfl, ?_⟩))
      by_cases hr0 : (0 : Int) < r
      · rw [decide_eq_true hr0]
        show Ens (sSeq _ _) [some (.own true ds1), some (.val (seqD tup ds)), none, none, none] _
        refine es_Seq (es_Own 2 ⟨ds, _, sq_list rfl, by simp, rfl, ?_⟩)
        show Ens (sSeq _ _) [some (.own true ds1), some (.val (seqD tup ds)), some (.own false ds), none, none] _
        refine es_Seq (es_Asg (en_pick 0 (dd := ds1) (b0 := true) rfl hd1 (by omega) (k := ds.length) hne (by omega) rfl fun j ds2 j0 j1 hd2 => ⟨_, rfl, ?_⟩))
        show Ens (sSeq _ _) [some (.own true ds2), some (.val (seqD tup ds)), some (.own false ds), some (.val (.int j)), none] _
        obtain ⟨x, hx, hmx⟩ := at_some (xs := ds) j0 j1
        obtain ⟨x', ds3, q1, q2, q3⟩ := hr W (B + 2) ds2 x hd2 (by omega) hW (hall x hmx)
        refine es_Seq (es_SetOwn 2 (en_CallK 0 (dd := ds2) (b0 := true) rfl (en_Cons (en_IxOwn 2 (dd := ds) (b0 := false) rfl (en_Var 3 rfl ⟨j, false, ds, x, rfl, rfl, hx, en_Nil ⟨rfl, true, ds2, _, ds3, rfl, q1, false, ds, rfl, ?_⟩⟩)))))
        refine en_Var 3 rfl ⟨j, false, ds, j.toNat, rfl, rfl, ix_some j0 j1, ?_⟩
        show Ens (sRet _) [some (.own true ds3), some (.val (seqD tup ds)), some (.own false (ds.set j.toNat x')), some (.val (.int j)), none] _
        have fin : fine (W + 1) (n + 1) (seqD tup (ds.set j.toNat x')) = true := by
          refine fine_sq ?_ fun d hd => ?_
          · rw [List.length_set]
            omega
          · rcases set_mem hd with q | q
            · exact up d q
            · rw [q]
              exact q2
        refine es_Ret (en_IfE ⟨tup, _, sq_isiT rfl, ?_⟩)
        cases tup with
        | true => exact en_CB (en_Cons (en_Froz 2 rfl (en_Nil ⟨_, rfl, ds3, rfl, _, rfl, _, rfl, fin, q3.mono (by omega)⟩)))
        | false => exact en_Froz 2 rfl ⟨ds3, rfl, _, rfl, _, rfl, fin, q3.mono (by omega)⟩
      · rw [decide_eq_false hr0]
        show Ens sSkip [some (.own true ds1), some (.val (seqD tup ds)), none, none, none] _
        exact es_Skip (part2 ds1 (B + 1) hd1 (Nat.le_refl _))
    · rw [decide_eq_false hne]
      show Ens sSkip [some (.own true ds0), some (.val (seqD tup ds)), none, none, none] _
      exact es_Skip (part2 ds0 B h (by omega))
theorem spoilt_all : ∀ (n m : Nat), n < m → n ≤ 50 → ∀ (W B : Nat) (ds0 : List D) (d : D), DOk B ds0 → B ≤ 900000000 - 2 * n → W ≤ 900 → fine W n d = true → ∃ d' ds1, f_law_spoilt m ds0 [d] = some (.val d', ds1) ∧ fine (W + 1) n d' = true ∧ DOk (B + 2 * n + 2) ds1 := by
  intro n
  induction n with
  | zero =>
    intro m hm _ W B ds0 d h hB hW hd
    obtain ⟨k, rfl⟩ : ∃ k, m = k + 1 := ⟨m - 1, by omega⟩
    have h1 : isTup d = false := by cases d <;> first | rfl | cases hd
    have h2 : isLst d = false := by cases d <;> first | rfl | cases hd
    exact spoilt_leaf h (by omega) hW hd h1 h2
  | succ n ih =>
    intro m hm hn W B ds0 d h hB hW hd
    obtain ⟨k, rfl⟩ : ∃ k, m = k + 1 := ⟨m - 1, by omega⟩
    have rc : ∀ (W B : Nat) (ds0 : List D) (d : D), DOk B ds0 → B ≤ 900000000 - 2 * n → W ≤ 900 → fine W n d = true → ∃ d' ds1, f_law_spoilt k ds0 [d] = some (.val d', ds1) ∧ fine (W + 1) n d' = true ∧ DOk (B + 2 * n + 2) ds1 := fun W B ds0 d => ih k (by omega) (by omega) W B ds0 d
    have leaf : isTup d = false → isLst d = false → ∃ d' ds1, f_law_spoilt (k + 1) ds0 [d] = some (.val d', ds1) ∧ fine (W + 1) (n + 1) d' = true ∧ DOk (B + 2 * (n + 1) + 2) ds1 := fun h1 h2 => by
      obtain ⟨d', ds1, q1, q2, q3⟩ := spoilt_leaf (fr := f_law_spoilt k) h (by omega) hW hd h1 h2
      exact ⟨d', ds1, q1, q2, q3.mono (by omega)⟩
    cases d with
    | tuple ds => exact spoilt_seq (tup := true) h hB hW hd (by omega) rc
    | list ds => exact spoilt_seq (tup := false) h hB hW hd (by omega) rc
    | _ => exact leaf rfl rfl
end PB

set_option maxHeartbeats 4000000
namespace PB
open PySem PySem.Spec PyProof.Rows L2

/-! ### drawn houses -/
theorem tw {l : List D} {k : Nat} (h : l.length ≤ k) (W n : Nat) (hW : k ≤ W) (ha : ∀ d ∈ l, fine W n d = true) : fine W (n + 1) (.tuple l) = true := fine_sq (tup := true) (by omega) ha
theorem mem_app {p : D → Prop} {l : List D} {x : D} (h : ∀ d ∈ l, p d) (hx : p x) : ∀ d ∈ l ++ [x], p d := fun d hd => by
  rcases List.mem_append.mp hd with q | q
  · exact h d q
  · rw [List.mem_singleton.mp q]
    exact hx
theorem fine2 {W n : Nat} {a b : D} (hW : 2 ≤ W) (ha : fine W n a = true) (hb : fine W n b = true) : fine W (n + 1) (.tuple [a, b]) = true := fine_sq (tup := true) (by simpa using hW) fun d hd => by
  simp only [List.mem_cons, List.not_mem_nil, or_false] at hd
  rcases hd with rfl | rfl
  · exact ha
  · exact hb
theorem cut_len (l : List D) (lo hi : Option Int) : (cutD l lo hi).length ≤ l.length := by
  unfold cutD
  rw [List.length_take, List.length_drop]
  omega
theorem cut_mem {l : List D} {lo hi : Option Int} {d : D} (h : d ∈ cutD l lo hi) : d ∈ l := by
  unfold cutD at h
  exact List.mem_of_mem_drop (List.mem_of_mem_take h)
theorem fine_lit {W n : Nat} {s : String} (h : (Str.ofString s).length ≤ 2000) : fine W n (.str (Str.ofString s)) = true := by
  rw [fine_strE, strOk_of, decide_eq_true h]
  rfl
theorem fine_int {W n : Nat} {i : Int} (h : i.natAbs ≤ 10000000) : fine W n (.int i) = true := by
  have : i.natAbs ≤ 10 ^ 31 + W := Nat.le_trans h (Nat.le_trans (by decide) (Nat.le_add_right _ _))
  cases n <;> exact decide_eq_true this
theorem dNe_unit {W n : Nat} {ds : List D} (h : fine W n (.tuple ds) = true) (hn : n ≤ 60) : dNe (.tuple ds) (.tuple []) = some (.bool (!ds.isEmpty)) := by
  unfold dNe
  rw [fine_shaped h hn, show SeqAt.shaped (.tuple []) = true by decide +kernel]
  cases ds <;> rfl
/-- one row -/
theorem houses_ok {B : Nat} {ds0 : List D} (h : DOk B ds0) (hB : B ≤ 900000000) : ∃ fs ds1, f_law_houses ds0 [.int 4, .int 5] = some (.val (.tuple fs), ds1) ∧ fine 9 6 (.tuple fs) = true ∧ DOk (B + 1000) ds1 := by
  have := runK_ens (n := 9) (M := M_law_houses) (ds0 := ds0) (ds := [.int 4, .int 5]) (R := fun r ds1 => ∃ d, r = .val (.tuple d) ∧ fine 9 6 (.tuple d) = true ∧ DOk (B + 1000) ds1) ?_
  · obtain ⟨r, ds1, q1, d, rfl, q2, q3⟩ := this
    exact ⟨d, ds1, q1, q2, q3⟩
  · unfold M_law_houses
    refine es_Seq (es_Own 3 (en_Sz (en_Nil ⟨by simp, by simp [startK], rfl, ?_⟩)))
    show Ens (sSeq _ _) [some (.own true ds0), some (.val (.int 4)), some (.val (.int 5)), some (.own false []), none, none, none, none, none] _
    have ev : (mNew (mSz (mCons (mC (.str "ann")) (mCons (mC (.str "bo")) (mCons (mC (.str "cy")) (mCons (mC (.str "dee")) mNil)))))) [some (.own true ds0), some (.val (.int 4)), some (.val (.int 5)), some (.own false []), none, none, none, none, none] = some (.list [.str "ann", .str "bo", .str "cy", .str "dee"], [some (.own true ds0), some (.val (.int 4)), some (.val (.int 5)), some (.own false []), none, none, none, none, none]) := by
      simp [szOk]
    refine es_Seq (es_For (en_It (en_Sl ⟨_, _, ev, en_NoPart (en_Part (en_Bin (en_C (en_pick 0 (dd := ds0) (b0 := true) rfl h (by omega) (k := 4) (by decide) (by decide) rfl fun r ds1 r0 r1 hd1 => ⟨_, rfl, 1 + r, rfl, _, rfl, _, rfl, ?_⟩))))⟩)))
    -- the houses
    refine ⟨fun i e => ∃ (dk : List D) (fs : List D) (s4 s5 s6 s7 : Option D), e = [some (.own true dk), some (.val (.int 4)), some (.val (.int 5)), some (.own false fs), slv s4, slv s5, slv s6, slv s7, none] ∧ DOk (B + 1 + 100 * i) dk ∧ fs.length = i ∧ ∀ d ∈ fs, fine 9 5 d = true, ⟨ds1, [], none, none, none, none, rfl, hd1.mono (by omega), rfl, fun _ h => nomatch h⟩, ?_, ?_⟩
    · rintro i nm e hi ⟨dk, fs, s4, s5, s6, s7, rfl, hdk, hfl, hfa⟩
      have hnm : nm ∈ ([.str "ann", .str "bo", .str "cy", .str "dee"] : List D) := cut_mem (List.mem_of_getElem? hi)
      have hi4 : i < 4 := by
        have a1 := (List.getElem?_eq_some_iff.mp hi).1
        have a2 := cut_len [.str "ann", .str "bo", .str "cy", .str "dee"] none (some (1 + r))
        simp only [List.length_cons, List.length_nil] at a2
        omega
      have fnm : fine 9 4 nm = true := by
        have all : ([.str "ann", .str "bo", .str "cy", .str "dee"] : List D).all (fine 9 4) = true := by decide +kernel
        exact List.all_eq_true.mp all nm hnm
      refine ⟨[some (.own true dk), some (.val (.int 4)), some (.val (.int 5)), some (.own false fs), some (.val nm), slv s5, slv s6, slv s7, none], by cases s4 <;> rfl, ?_⟩
      -- columns
      have ev2 : (mNew (mSz (mCons (mC (.str "a")) (mCons (mC (.str "b")) (mCons (mC (.str "c")) (mCons (mC (.str "d")) mNil)))))) [some (.own true dk), some (.val (.int 4)), some (.val (.int 5)), some (.own false fs), some (.val nm), slv s5, slv s6, slv s7, none] = some (.list [.str "a", .str "b", .str "c", .str "d"], [some (.own true dk), some (.val (.int 4)), some (.val (.int 5)), some (.own false fs), some (.val nm), slv s5, slv s6, slv s7, none]) := by
        simp [szOk]
      refine es_Seq (es_Asg (en_CB (en_Cons (en_New (en_Lc (en_It ⟨_, _, ev2, [.str "a", .str "b", .str "c", .str "d"], rfl, by decide, _, rfl, ?_⟩))))))
      refine ⟨fun j e acc => ∃ dk', e = [some (.own true dk'), some (.val (.int 4)), some (.val (.int 5)), some (.own false fs), some (.val nm), slv s5, slv s6, slv s7, none] ∧ DOk (B + 1 + 100 * i + j) dk' ∧ acc.length ≤ j ∧ ∀ d ∈ acc, fine 9 0 d = true, ⟨dk, rfl, hdk.mono (by omega), Nat.le_refl _, fun _ h => nomatch h⟩, ?_, ?_⟩
      · rintro j col e acc hj ⟨dk', rfl, hdk', hal, hac⟩
        have hj4 : j < 4 := (List.getElem?_eq_some_iff.mp hj).1
        have fcol : fine 9 0 col = true := by
          have all : ([.str "a", .str "b", .str "c", .str "d"] : List D).all (fine 9 0) = true := by decide +kernel
          exact List.all_eq_true.mp all col (List.mem_of_getElem? hj)
        refine ⟨[some (.own true dk'), some (.val (.int 4)), some (.val (.int 5)), some (.own false fs), some (.val nm), slv s5, slv s6, slv s7, some (.val col)], rfl, en_B (en_Bin (en_pick 0 (dd := dk') (b0 := true) rfl hdk' (by omega) (k := 3) (by decide) (by decide) rfl fun r2 dk2 _ _ hd2 => en_C ⟨.bool (decide ((0 : Int) < r2)), rfl, decide ((0 : Int) < r2), rfl, ?_⟩))⟩
        cases decide ((0 : Int) < r2) with
        | true => exact iteT (en_Var 8 rfl ⟨_, rfl, dk2, rfl, hd2.mono (by omega), by rw [List.length_append, List.length_singleton]; omega, mem_app hac fcol⟩)
        | false => exact iteF ⟨_, rfl, dk2, rfl, hd2.mono (by omega), by omega, hac⟩
      · rintro e acc ⟨dk2, rfl, hdk2, hal, hac⟩
        have hal4 : acc.length ≤ 4 := hal
        have hdk2 : DOk (B + 1 + 100 * i + 4) dk2 := hdk2
        refine en_Nil ⟨.tuple acc, rfl, [some (.own true dk2), some (.val (.int 4)), some (.val (.int 5)), some (.own false fs), some (.val nm), some (.val (.tuple acc)), slv s6, slv s7, none], by cases s5 <;> rfl, ?_⟩
        have facc : fine 9 1 (.tuple acc) = true := tw hal4 9 0 (by decide) hac
        -- columns, none: 'a'
        have ev3 : (mIfE (mB (mBin dNe (mVar 5) (mTup mNil))) (mVar 5) (mTup (mCons (mC (.str "a")) mNil))) [some (.own true dk2), some (.val (.int 4)), some (.val (.int 5)), some (.own false fs), some (.val nm), some (.val (.tuple acc)), slv s6, slv s7, none] =
            some (.tuple (if acc.isEmpty then [.str "a"] else acc), [some (.own true dk2), some (.val (.int 4)), some (.val (.int 5)), some (.own false fs), some (.val nm), some (.val (.tuple acc)), slv s6, slv s7, none]) := by
          have := dNe_unit facc (by decide)
          cases hemp : acc.isEmpty <;> simp [this, hemp, szOk]
        refine es_Seq (es_Asg ⟨_, _, ev3, _, rfl, ?_⟩)
        show Ens (sSeq _ _) [some (.own true dk2), some (.val (.int 4)), some (.val (.int 5)), some (.own false fs), some (.val nm), some (.val (.tuple (if acc.isEmpty then [.str "a"] else acc))), slv s6, slv s7, none] _
        obtain ⟨cs, hcs⟩ : ∃ cs, cs = (if acc.isEmpty = true then [.str "a"] else acc) := ⟨_, rfl⟩
        rw [← hcs]
        have hc4 : cs.length ≤ 4 := by
          rw [hcs]
          split
          · simp
          · exact hal4
        have fcs : ∀ d ∈ cs, fine 9 0 d = true := by
          rw [hcs]
          split
          · intro d hd
            rw [List.mem_singleton.mp hd]
            decide +kernel
          · exact hac
        refine es_Seq (es_Own 6 (en_Sz (en_Nil ⟨by simp, by simp, by cases s6 <;> rfl, ?_⟩)))
        show Ens (sSeq _ _) [some (.own true dk2), some (.val (.int 4)), some (.val (.int 5)), some (.own false fs), some (.val nm), some (.val (.tuple cs)), some (.own false []), slv s7, none] _
        -- rows
        refine es_Seq (es_For (en_Range1 (en_pick 0 (dd := dk2) (b0 := true) rfl hdk2 (by omega) (k := 6) (by decide) (by decide) (by simp) fun r2 dk3 r20 r21 hd3 => ⟨r2, rfl, by omega, by omega, ?_⟩)))
        refine ⟨fun j e => ∃ (dk : List D) (rs : List D) (s7 : Option D), e = [some (.own true dk), some (.val (.int 4)), some (.val (.int 5)), some (.own false fs), some (.val nm), some (.val (.tuple cs)), some (.own false rs), slv s7, none] ∧ DOk (B + 7 + 100 * i + 10 * j) dk ∧ rs.length = j ∧ ∀ d ∈ rs, fine 9 2 d = true, ⟨dk3, [], s7, rfl, hd3.mono (by omega), rfl, fun _ h => nomatch h⟩, ?_, ?_⟩
        · rintro j num e hj ⟨dk4, rs, s7, rfl, hdk4, hrl, hra⟩
          obtain ⟨q, hq, rfl⟩ := range_mem (List.mem_of_getElem? hj)
          have hj6 : j < 6 := by
            have := (List.getElem?_eq_some_iff.mp hj).1
            rw [rangeD_len] at this
            omega
          refine ⟨[some (.own true dk4), some (.val (.int 4)), some (.val (.int 5)), some (.own false fs), some (.val nm), some (.val (.tuple cs)), some (.own false rs), some (.val (.int (0 + (q : Nat)))), none], by cases s7 <;> rfl, ?_⟩
          refine es_Drop (en_Append 6 (b0 := false) (dd := rs) rfl (en_Tup (en_Cons (en_Bin ?_))))
          refine en_Bin (en_C (en_Var 7 rfl ⟨.int (3 * (0 + (q : Nat))), by simp [dMul, iOp], en_pick 0 (dd := dk4) (b0 := true) rfl hdk4 (by omega) (k := 3) (by decide) (by decide) rfl fun r3 dk5 r30 r31 hd5 => ⟨_, rfl, ?_⟩⟩))
          refine en_Cons (en_CB (en_Cons (en_New (en_Lc (en_It (en_Var 5 rfl ⟨cs, rfl, by omega, _, rfl, ?_⟩))))))
          refine ⟨fun k e acc => ∃ dk', e = [some (.own true dk'), some (.val (.int 4)), some (.val (.int 5)), some (.own false fs), some (.val nm), some (.val (.tuple cs)), some (.own false rs), some (.val (.int (0 + (q : Nat)))), none] ∧ DOk (B + 8 + 100 * i + 10 * j + 2 * k) dk' ∧ acc.length ≤ k ∧ ∀ d ∈ acc, fine 9 0 d = true, ⟨dk5, rfl, hd5.mono (by omega), Nat.le_refl _, fun _ h => nomatch h⟩, ?_, ?_⟩
          · rintro k col e acc2 hk ⟨dk', rfl, hdk', hal2, hac2⟩
            have hk4 : k < 4 := by
              have := (List.getElem?_eq_some_iff.mp hk).1
              omega
            obtain ⟨w, dk6, w1, w2, w3⟩ := worth_ok hdk' (by omega)
            refine ⟨[some (.own true dk'), some (.val (.int 4)), some (.val (.int 5)), some (.own false fs), some (.val nm), some (.val (.tuple cs)), some (.own false rs), some (.val (.int (0 + (q : Nat)))), some (.val col)], rfl, en_Yes (iteT (en_CallK 0 (dd := dk') (b0 := true) rfl (en_Nil ⟨rfl, true, dk', _, dk6, rfl, w1, _, rfl, dk6, rfl, w3.mono (by omega), ?_, ?_⟩)))⟩
            · rw [List.length_append, List.length_singleton]
              omega
            · exact mem_app hac2 (fine_mono (by decide) (Nat.le_refl _) w2)
          · rintro e acc2 ⟨dk', rfl, hdk', hal2, hac2⟩
            refine en_Nil ⟨.tuple acc2, rfl, en_Nil ⟨by simp, false, rs, rfl, by omega, rfl, dk', rs ++ [.tuple [.int (3 * (0 + (q : Nat)) + r3), .tuple acc2]], some (.int (0 + (q : Nat))), rfl, hdk'.mono (by omega), ?_, mem_app hra ?_⟩⟩
            · rw [List.length_append, List.length_singleton, hrl]
            · exact fine2 (by decide) (fine_int (by omega)) (tw (k := 4) (by omega) 9 0 (by decide) hac2)
        · rintro e ⟨dk4, rs, s7, rfl, hdk4, hrl, hra⟩
          rw [rangeD_len] at hrl hdk4
          refine es_Drop (en_Append 3 (b0 := false) (dd := fs) rfl (en_Tup (en_Cons (en_Var 4 rfl (en_Cons (en_Tup (en_Cons (en_Var 5 rfl (en_Cons (en_CB (en_Cons (en_Froz 6 rfl (en_Nil ⟨.tuple rs, rfl, en_Nil ⟨by simp, en_Nil ⟨by simp, false, fs, rfl, by omega, rfl, ?_⟩⟩⟩)))))))))))))
          refine ⟨dk4, fs ++ [.tuple [nm, .tuple [.tuple cs, .tuple rs]]], some nm, some (.tuple cs), some (.list rs), s7, rfl, hdk4.mono (by omega), ?_, mem_app hfa ?_⟩
          · rw [List.length_append, List.length_singleton, hfl]
          · refine fine2 (by decide) fnm (fine2 (by decide) ?_ ?_)
            · exact tw (k := 4) hc4 9 2 (by decide) fun d hd => fine_mono (Nat.le_refl _) (by decide) (fcs d hd)
            · exact tw (k := 6) (by omega) 9 2 (by decide) hra
    · rintro e ⟨dk, fs, s4, s5, s6, s7, rfl, hdk, hfl, hfa⟩
      have a2 := cut_len [.str "ann", .str "bo", .str "cy", .str "dee"] none (some (1 + r))
      simp only [List.length_cons, List.length_nil] at a2
      refine es_Ret (en_CB (en_Cons (en_Froz 3 rfl (en_Nil ⟨.tuple fs, rfl, dk, rfl, _, rfl, _, rfl, ?_, hdk.mono (by omega)⟩))))
      exact tw (k := 4) (by omega) 9 5 (by decide) hfa
end PB

set_option maxHeartbeats 4000000
namespace PB
open PySem PySem.Spec PyProof.Rows L2

theorem fine1 {W n : Nat} {a : D} (hW : 1 ≤ W) (ha : fine W n a = true) : fine W (n + 1) (.tuple [a]) = true := fine_sq (tup := true) (by simpa using hW) fun d hd => by
  rw [List.mem_singleton.mp hd]
  exact ha
theorem fine0 {W n : Nat} : fine W (n + 1) (.tuple []) = true := by simp [fine]
theorem lit_a {W n : Nat} : fine W n (.str "a") = true := fine_lit (by decide +kernel)
theorem written_ok {B : Nat} {ds0 : List D} (h : DOk B ds0) (hB : B ≤ 900000000) : ∃ xs ds1, f_law_written ds0 [] = some (.val (.list xs), ds1) ∧ xs.length ≤ 50 ∧ (∀ d ∈ xs, fine 9 6 d = true) ∧ DOk (B + 10) ds1 := by
  have := runK_ens (n := 9) (M := M_law_written) (ds0 := ds0) (ds := []) (R := fun r ds1 => ∃ xs, r = .val (.list xs) ∧ xs.length ≤ 50 ∧ (∀ d ∈ xs, fine 9 6 d = true) ∧ DOk (B + 10) ds1) ?_
  · obtain ⟨r, ds1, q1, xs, rfl, q2, q3, q4⟩ := this
    exact ⟨xs, ds1, q1, q2, q3, q4⟩
  · unfold M_law_written
    refine es_Seq (es_Asg (en_CB (en_Cons (en_New (en_Lc (en_Range1 (en_Bin (en_C (en_pick 0 (dd := ds0) (b0 := true) rfl h (by omega) (k := 2) (by decide) (by decide) rfl fun r ds1 r0 r1 hd1 => ⟨_, rfl, 8 + r, rfl, by omega, by omega, ?_⟩)))))))))
    refine ⟨by rw [rangeD_len]; omega, _, rfl, fun j e acc => e = [some (.own true ds1), none, none, none, none, none, none, none, none] ∧ acc.length ≤ j ∧ ∀ d ∈ acc, fine 9 2 d = true, ⟨rfl, Nat.le_refl _, fun _ h => nomatch h⟩, ?_, ?_⟩
    · rintro j k e acc hj ⟨rfl, hal, hac⟩
      obtain ⟨q, hq, rfl⟩ := range_mem (List.mem_of_getElem? hj)
      refine ⟨[some (.own true ds1), none, none, none, none, none, none, some (.val (.int (0 + (q : Nat)))), none], rfl, en_Yes (iteT (en_Tup (en_Cons (en_Var 7 rfl (en_Cons (en_Tup (en_Cons (en_Var 7 rfl (en_Cons (en_C (en_Nil ⟨by simp, en_Nil ⟨by simp, _, rfl, rfl, ?_, mem_app hac ?_⟩⟩)))))))))))⟩
      · rw [List.length_append, List.length_singleton]
        omega
      · exact fine2 (by decide) (fine_int (by omega)) (fine2 (by decide) (fine_int (by omega)) (by rfl))
    · rintro e rows ⟨rfl, hal, hac⟩
      rw [rangeD_len] at hal
      have fr : fine 9 3 (.tuple rows) = true := tw (k := 9) (by omega) 9 2 (by decide) hac
      refine en_Nil ⟨.tuple rows, rfl, [some (.own true ds1), some (.val (.tuple rows)), none, none, none, none, none, none, none], rfl, ?_⟩
      -- columns
      have ev1 : (mTup (mCons (mC (.str "a")) (mCons (mC (.str "b")) (mCons (mC (.str "c")) (mCons (mC (.str "d")) (mCons (mC (.str "e")) (mCons (mC (.str "f")) mNil))))))) [some (.own true ds1), some (.val (.tuple rows)), none, none, none, none, none, none, none] = some (.tuple [.str "a", .str "b", .str "c", .str "d", .str "e", .str "f"], [some (.own true ds1), some (.val (.tuple rows)), none, none, none, none, none, none, none]) := by
        simp [szOk]
      refine es_Seq (es_Asg (en_Sl ⟨_, _, ev1, en_NoPart (en_Part (en_Bin (en_C (en_pick 0 (dd := ds1) (b0 := true) rfl hd1 (by omega) (k := 2) (by decide) (by decide) rfl fun r2 ds2 r20 r21 hd2 => ⟨_, rfl, 5 + r2, rfl, _, rfl, _, rfl, ?_⟩))))⟩))
      obtain ⟨cs, hcs⟩ : ∃ cs, cs = cutD [.str "a", .str "b", .str "c", .str "d", .str "e", .str "f"] none (some (5 + r2)) := ⟨_, rfl⟩
      rw [← hcs]
      have fcs : fine 9 1 (.tuple cs) = true := by
        refine tw (k := 6) (by rw [hcs]; exact cut_len _ _ _) 9 0 (by decide) fun d hd => ?_
        have all : ([.str "a", .str "b", .str "c", .str "d", .str "e", .str "f"] : List D).all (fine 9 0) = true := by decide +kernel
        exact List.all_eq_true.mp all d (cut_mem (by rw [← hcs]; exact hd))
      show Ens (sSeq _ _) [some (.own true ds2), some (.val (.tuple rows)), some (.val (.tuple cs)), none, none, none, none, none, none] _
      -- some
      have ev2 : (mSz (mCons (mTup (mCons (mTup (mCons (mC (.str "a")) (mCons (mTup (mCons (mTup (mCons (mC (.str "a")) (mCons (mC (.str "b")) mNil))) (mCons (mVar 1) mNil))) mNil))) mNil)) (mCons (mTup (mCons (mTup (mCons (mC (.str "a")) (mCons (mTup (mCons (mVar 2) (mCons (mTup mNil) mNil))) mNil))) mNil)) mNil))) [some (.own true ds2), some (.val (.tuple rows)), some (.val (.tuple cs)), none, none, none, none, none, none] =
          some ([.tuple [.tuple [.str "a", .tuple [.tuple [.str "a", .str "b"], .tuple rows]]], .tuple [.tuple [.str "a", .tuple [.tuple cs, .tuple []]]]], [some (.own true ds2), some (.val (.tuple rows)), some (.val (.tuple cs)), none, none, none, none, none, none]) := by
        simp [szOk]
      refine es_Seq (es_Own 3 ⟨_, _, ev2, by simp, rfl, ?_⟩)
      obtain ⟨sm, hsm⟩ : ∃ sm : List D, sm = [.tuple [.tuple [.str "a", .tuple [.tuple [.str "a", .str "b"], .tuple rows]]], .tuple [.tuple [.str "a", .tuple [.tuple cs, .tuple []]]]] := ⟨_, rfl⟩
      rw [← hsm]
      have hsl : sm.length = 2 := by rw [hsm]; rfl
      have hsa : ∀ d ∈ sm, fine 9 6 d = true := by
        rw [hsm]
        intro d hd
        simp only [List.mem_cons, List.not_mem_nil, or_false] at hd
        rcases hd with rfl | rfl
        · exact fine1 (by decide) (fine2 (by decide) lit_a (fine2 (by decide) (fine2 (by decide) lit_a (fine_lit (by decide +kernel))) fr))
        · exact fine1 (by decide) (fine2 (by decide) lit_a (fine2 (by decide) (fine_mono (Nat.le_refl _) (by decide) fcs) fine0))
      show Ens (sSeq _ _) [some (.own true ds2), some (.val (.tuple rows)), some (.val (.tuple cs)), some (.own false sm), none, none, none, none, none] _
      -- names
      have ev3 : (mNew (mSz (mCons (mC (.str "a")) (mCons (mC (.str "b")) (mCons (mC (.str "c")) (mCons (mC (.str "d")) (mCons (mC (.str "e")) mNil))))))) [some (.own true ds2), some (.val (.tuple rows)), some (.val (.tuple cs)), some (.own false sm), none, none, none, none, none] = some (.list [.str "a", .str "b", .str "c", .str "d", .str "e"], [some (.own true ds2), some (.val (.tuple rows)), some (.val (.tuple cs)), some (.own false sm), none, none, none, none, none]) := by
        simp [szOk]
      refine es_Seq (es_Asg (en_Sl ⟨_, _, ev3, en_NoPart (en_Part (en_Bin (en_C (en_pick 0 (dd := ds2) (b0 := true) rfl hd2 (by omega) (k := 2) (by decide) (by decide) rfl fun r3 ds3 r30 r31 hd3 => ⟨_, rfl, 4 + r3, rfl, _, rfl, _, rfl, ?_⟩))))⟩))
      obtain ⟨ns, hns⟩ : ∃ ns, ns = cutD [.str "a", .str "b", .str "c", .str "d", .str "e"] none (some (4 + r3)) := ⟨_, rfl⟩
      rw [← hns]
      have hnl : ns.length ≤ 5 := by rw [hns]; exact cut_len _ _ _
      have fns : ∀ d ∈ ns, fine 9 0 d = true := fun d hd => by
        have all : ([.str "a", .str "b", .str "c", .str "d", .str "e"] : List D).all (fine 9 0) = true := by decide +kernel
        exact List.all_eq_true.mp all d (cut_mem (by rw [← hns]; exact hd))
      show Ens (sSeq _ _) [some (.own true ds3), some (.val (.tuple rows)), some (.val (.tuple cs)), some (.own false sm), some (.val (.list ns)), none, none, none, none] _
      have l1 : mLc (mIt (mVar 4)) (bName 8) mYes (mTup (mCons (mVar 8) (mCons (mTup (mCons (mTup (mCons (mC (.str "a")) mNil)) (mCons (mTup mNil) mNil))) mNil))) [8] [some (.own true ds3), some (.val (.tuple rows)), some (.val (.tuple cs)), some (.own false sm), some (.val (.list ns)), none, none, none, none] =
          some (ns.map fun d => .tuple [d, .tuple [.tuple [.str "a"], .tuple []]], [some (.own true ds3), some (.val (.tuple rows)), some (.val (.tuple cs)), some (.own false sm), some (.val (.list ns)), none, none, none, none]) := by
        rw [lc_pure (items := ns) (fun _ => true) (fun d => .tuple [d, .tuple [.tuple [.str "a"], .tuple []]]) (fun d => [some (.own true ds3), some (.val (.tuple rows)), some (.val (.tuple cs)), some (.own false sm), some (.val (.list ns)), none, none, none, some (.val d)]) [some (.own true ds3), some (.val (.tuple rows)), some (.val (.tuple cs)), some (.own false sm), some (.val (.list ns)), none, none, none, none] rfl (by omega) rfl rfl (fun d _ => rfl) (fun d _ => rfl) (fun d hd _ => ?_) (fun d _ => rfl), filter_true]
        have v8 : mVar 8 [some (.own true ds3), some (.val (.tuple rows)), some (.val (.tuple cs)), some (.own false sm), some (.val (.list ns)), none, none, none, some (.val d)] = some (d, [some (.own true ds3), some (.val (.tuple rows)), some (.val (.tuple cs)), some (.own false sm), some (.val (.list ns)), none, none, none, some (.val d)]) := rfl
        simp [v8, szOk]
      refine es_Seq (es_Drop (en_Append 3 (b0 := false) (dd := sm) rfl (en_CB (en_Cons (en_New ⟨_, _, l1, en_Nil ⟨_, rfl, false, sm, rfl, by omega, ?_⟩⟩)))))
      obtain ⟨sm2, hsm2⟩ : ∃ sm2 : List D, sm2 = sm ++ [.tuple (ns.map fun d => .tuple [d, .tuple [.tuple [.str "a"], .tuple []]])] := ⟨_, rfl⟩
      rw [← hsm2]
      have hsl2 : sm2.length = 3 := by rw [hsm2, List.length_append, List.length_singleton, hsl]
      have hsa2 : ∀ d ∈ sm2, fine 9 6 d = true := by
        rw [hsm2]
        refine mem_app hsa (tw (k := 5) (by rw [List.length_map]; exact hnl) 9 5 (by decide) fun d hd => ?_)
        obtain ⟨x, hx, rfl⟩ := List.mem_map.mp hd
        exact fine2 (by decide) (fine_mono (Nat.le_refl _) (by decide) (fns x hx)) (fine2 (by decide) (fine1 (by decide) lit_a) fine0)
      show Ens (sSeq _ _) [some (.own true ds3), some (.val (.tuple rows)), some (.val (.tuple cs)), some (.own false sm2), some (.val (.list ns)), none, none, none, none] _
      -- worths
      have ev4 : (mNew (mSz (mCons (mBin dPow (mC (.int 10)) (mC (.int 6))) (mCons (mBin dAdd (mBin dPow (mC (.int 10)) (mC (.int 6))) (mC (.int 1))) (mCons (mBin dSub (mC (.int 0)) (mBin dPow (mC (.int 10)) (mC (.int 6)))) (mCons (mBin dSub (mBin dSub (mC (.int 0)) (mBin dPow (mC (.int 10)) (mC (.int 6)))) (mC (.int 1))) (mCons (mC (.str "")) (mCons (mC (.str "abcdefgh")) (mCons (mC (.str "abcdefghi")) (mCons (mC (.bool true)) (mCons (mC (.str "a1")) mNil))))))))))) [some (.own true ds3), some (.val (.tuple rows)), some (.val (.tuple cs)), some (.own false sm2), some (.val (.list ns)), none, none, none, none] =
          some (.list [.int 1000000, .int 1000001, .int (-1000000), .int (-1000001), .str "", .str "abcdefgh", .str "abcdefghi", .bool true, .str "a1"], [some (.own true ds3), some (.val (.tuple rows)), some (.val (.tuple cs)), some (.own false sm2), some (.val (.list ns)), none, none, none, none]) := by
        simp [szOk, dPow, iOp]
      refine es_Seq (es_For (en_It ⟨_, _, ev4, _, rfl, fun j e => ∃ (sm : List D) (s5 : Option D), e = [some (.own true ds3), some (.val (.tuple rows)), some (.val (.tuple cs)), some (.own false sm), some (.val (.list ns)), slv s5, none, none, none] ∧ sm.length = 3 + j ∧ ∀ d ∈ sm, fine 9 6 d = true, ⟨sm2, none, rfl, hsl2, hsa2⟩, ?_, ?_⟩))
      · rintro j wv e hj ⟨sm3, s5, rfl, hl3, ha3⟩
        have hj9 : j < 9 := (List.getElem?_eq_some_iff.mp hj).1
        have fw : fine 9 0 wv = true := by
          have all : ([.int 1000000, .int 1000001, .int (-1000000), .int (-1000001), .str "", .str "abcdefgh", .str "abcdefghi", .bool true, .str "a1"] : List D).all (fine 9 0) = true := by decide +kernel
          exact List.all_eq_true.mp all wv (List.mem_of_getElem? hj)
        refine ⟨[some (.own true ds3), some (.val (.tuple rows)), some (.val (.tuple cs)), some (.own false sm3), some (.val (.list ns)), some (.val wv), none, none, none], by cases s5 <;> rfl, ?_⟩
        have ev5 : (mTup (mCons (mTup (mCons (mC (.str "a")) (mCons (mTup (mCons (mTup (mCons (mC (.str "a")) mNil)) (mCons (mTup (mCons (mTup (mCons (mC (.int 0)) (mCons (mTup (mCons (mVar 5) mNil)) mNil))) mNil)) mNil))) mNil))) mNil)) [some (.own true ds3), some (.val (.tuple rows)), some (.val (.tuple cs)), some (.own false sm3), some (.val (.list ns)), some (.val wv), none, none, none] =
            some (.tuple [.tuple [.str "a", .tuple [.tuple [.str "a"], .tuple [.tuple [.int 0, .tuple [wv]]]]]], [some (.own true ds3), some (.val (.tuple rows)), some (.val (.tuple cs)), some (.own false sm3), some (.val (.list ns)), some (.val wv), none, none, none]) := by
          simp [szOk]
        refine es_Drop (en_Append 3 (b0 := false) (dd := sm3) rfl ⟨_, _, ev5, false, sm3, rfl, by omega, rfl, _, some wv, rfl, ?_, mem_app ha3 ?_⟩)
        · rw [List.length_append, List.length_singleton, hl3]
          omega
        · exact fine1 (by decide) (fine2 (by decide) lit_a (fine2 (by decide) (fine1 (by decide) lit_a) (fine1 (by decide) (fine2 (by decide) (fine_int (by decide)) (fine1 (by decide) fw)))))
      · rintro e ⟨sm3, s5, rfl, hl3, ha3⟩
        have hl3 : sm3.length = 12 := hl3
        have ev6 : (mNew (mSz (mCons (mC (.int 0)) (mCons (mC (.int 999)) (mCons (mC (.int 1000)) (mCons (mUn dNeg (mC (.int 1))) (mCons (mC (.bool true)) (mCons (mC .none) mNil)))))))) [some (.own true ds3), some (.val (.tuple rows)), some (.val (.tuple cs)), some (.own false sm3), some (.val (.list ns)), slv s5, none, none, none] =
            some (.list [.int 0, .int 999, .int 1000, .int (-1), .bool true, .none], [some (.own true ds3), some (.val (.tuple rows)), some (.val (.tuple cs)), some (.own false sm3), some (.val (.list ns)), slv s5, none, none, none]) := by
          simp [szOk]
        refine es_Seq (es_For (en_It ⟨_, _, ev6, _, rfl, fun j e => ∃ (sm : List D) (s6 : Option D), e = [some (.own true ds3), some (.val (.tuple rows)), some (.val (.tuple cs)), some (.own false sm), some (.val (.list ns)), slv s5, slv s6, none, none] ∧ sm.length = 12 + j ∧ ∀ d ∈ sm, fine 9 6 d = true, ⟨sm3, none, rfl, hl3, ha3⟩, ?_, ?_⟩))
        · rintro j wv e hj ⟨sm4, s6, rfl, hl4, ha4⟩
          have hj9 : j < 6 := (List.getElem?_eq_some_iff.mp hj).1
          have fw : fine 9 0 wv = true := by
            have all : ([.int 0, .int 999, .int 1000, .int (-1), .bool true, .none] : List D).all (fine 9 0) = true := by decide +kernel
            exact List.all_eq_true.mp all wv (List.mem_of_getElem? hj)
          refine ⟨[some (.own true ds3), some (.val (.tuple rows)), some (.val (.tuple cs)), some (.own false sm4), some (.val (.list ns)), slv s5, some (.val wv), none, none], by cases s6 <;> rfl, ?_⟩
          have ev5 : (mTup (mCons (mTup (mCons (mC (.str "a")) (mCons (mTup (mCons (mTup (mCons (mC (.str "a")) mNil)) (mCons (mTup (mCons (mTup (mCons (mVar 6) (mCons (mTup (mCons (mC (.int 1)) mNil)) mNil))) mNil)) mNil))) mNil))) mNil)) [some (.own true ds3), some (.val (.tuple rows)), some (.val (.tuple cs)), some (.own false sm4), some (.val (.list ns)), slv s5, some (.val wv), none, none] =
              some (.tuple [.tuple [.str "a", .tuple [.tuple [.str "a"], .tuple [.tuple [wv, .tuple [.int 1]]]]]], [some (.own true ds3), some (.val (.tuple rows)), some (.val (.tuple cs)), some (.own false sm4), some (.val (.list ns)), slv s5, some (.val wv), none, none]) := by
            simp [szOk]
          refine es_Drop (en_Append 3 (b0 := false) (dd := sm4) rfl ⟨_, _, ev5, false, sm4, rfl, by omega, rfl, _, some wv, rfl, ?_, mem_app ha4 ?_⟩)
          · rw [List.length_append, List.length_singleton, hl4]
            omega
          · exact fine1 (by decide) (fine2 (by decide) lit_a (fine2 (by decide) (fine1 (by decide) lit_a) (fine1 (by decide) (fine2 (by decide) (fine_mono (Nat.le_refl _) (by decide) fw) (fine1 (by decide) (fine_int (by decide)))))))
        · rintro e ⟨sm4, s6, rfl, hl4, ha4⟩
          have hl4 : sm4.length = 18 := hl4
          exact es_Ret (en_Froz 3 rfl ⟨ds3, rfl, _, rfl, sm4, rfl, by omega, ha4, hd3.mono (by omega)⟩)
end PB

set_option maxHeartbeats 4000000
namespace PB
open PySem PySem.Spec PyProof.Rows L2

/-- a spoilt thing within an expression -/
theorem en_spoilt {e : Sg} (i : Nat) {b0 : Bool} {dd : List D} {m : ML} {P : D → Sg → Prop} {B W : Nat} {d : D} (h0 : e[i]? = some (some (.own b0 dd))) (hd : DOk B dd) (hB : B ≤ 800000000) (hW : W ≤ 900) (hf : fine W 6 d = true) (hm : m e = some ([d], e))
    (h : ∀ (d' : D) (ds1 : List D), fine (W + 1) 6 d' = true → DOk (B + 14) ds1 → P d' (e.set i (some (.own b0 ds1)))) : Ens (mCallK i 2 (f_law_spoilt 20) m) e P := by
  obtain ⟨d', ds1, q1, q2, q3⟩ := spoilt_all 6 20 (by decide) (by decide) W B dd d hd (by omega) hW hf
  exact en_CallK i h0 ⟨[d], e, hm, rfl, b0, dd, _, ds1, h0, q1, h d' ds1 q2 q3⟩
theorem thing_same {W : Nat} {d : D} {e : Sg} (hW : W ≤ 900) (h : fine W 6 d = true) (hv : e[6]? = some (some (.val d))) :
    mNotT (mTru (mCall 2 (f_law_same 20) (mCons (mCall 1 f_are_houses (mCons (mVar 6) mNil)) (mCons (mCall 1 f_law_good (mCons (mVar 6) mNil)) mNil)))) e = some (false, e) := by
  have h1 := e_are_houses h (by omega)
  have h2 := e_law_good h (by omega) (by decide)
  have h3 := same_bool (houses d) (houses d) 19
  simp [ev_Var hv, h1, h2, h3]
theorem law_true (ns : List Int) (hl : ns.length ≤ 63) : f_law [.list (ns.map .int)] = some (.val (.bool true)) := by
  have := runP_ens (n := 8) (M := M_law) (ds := [.list (ns.map .int)]) (R := fun r => r = .val (.bool true)) ?_
  · obtain ⟨r, q1, rfl⟩ := this
    exact q1
  · unfold M_law
    obtain ⟨sc, hsc⟩ : ∃ sc : D, sc = .list (ns.map .int) := ⟨_, rfl⟩
    have ev0 : (mSl (mBin dAdd (mNew (mSz (mCons (mC (.int 0)) mNil))) (mVar 0)) mNoPart (mPart (mC (.int 10)))) (startE 8 [.list (ns.map .int)]) = some (.list (cutD (.int 0 :: ns.map .int) none (some 10)), startE 8 [.list (ns.map .int)]) := by
      have hz : szOk (1 + ns.length) = true := decide_eq_true (by omega)
      simp [startE, szOk0, dAdd, hz, dSl, show szOk 1 = true from rfl]
    refine es_Seq (es_For (en_It ⟨_, _, ev0, _, rfl, fun i e => ∃ (o2 : Option Sl) (s1 s3 s4 s5 s6 : Option D), isPar (some o2) = false ∧ e = [some (.val (.list (ns.map .int))), slv s1, o2, slv s3, slv s4, slv s5, slv s6, none], ⟨none, none, none, none, none, none, rfl, rfl⟩, ?_, ?_⟩))
    · rw [← hsc]
      rintro i c e hi ⟨o2, s1, s3, s4, s5, s6, hp2, rfl⟩
      obtain ⟨z, rfl⟩ : ∃ z : Int, c = .int z := by
        have := cut_mem (List.mem_of_getElem? hi)
        simp only [List.mem_cons, List.mem_map] at this
        rcases this with h | ⟨z, _, h⟩
        · exact ⟨0, h⟩
        · exact ⟨z, h.symm⟩
      refine ⟨[some (.val sc), some (.val (.int z)), o2, slv s3, slv s4, slv s5, slv s6, none], by cases s1 <;> rfl, ?_⟩
      obtain ⟨dk, k1, k2⟩ := deck_ok z
      refine es_Seq (es_Own 2 (en_CallN ⟨[.int z, .int 1], [some (.val sc), some (.val (.int z)), o2, slv s3, slv s4, slv s5, slv s6, none], by simp, rfl, dk, k1, by simp, hp2, ?_⟩))
      show Ens (sSeq _ _) [some (.val sc), some (.val (.int z)), some (.own false dk), slv s3, slv s4, slv s5, slv s6, none] _
      -- good
      obtain ⟨fs, dk1, g1, g2, g3⟩ := houses_ok k2 (by decide)
      refine es_Seq (es_Asg (en_CallK 2 (b0 := false) (dd := dk) rfl ⟨[.int 4, .int 5], [some (.val sc), some (.val (.int z)), some (.own false dk), slv s3, slv s4, slv s5, slv s6, none], by simp, rfl, false, dk, _, dk1, rfl, g1, [some (.val sc), some (.val (.int z)), some (.own false dk1), some (.val (.tuple fs)), slv s4, slv s5, slv s6, none], by cases s3 <;> rfl, ?_⟩))
      -- bent
      refine es_Seq (es_Asg (en_spoilt 2 (b0 := false) (dd := dk1) rfl g3 (by decide) (W := 9) (by decide) g2 rfl fun bent dk2 b1 b2 => ⟨[some (.val sc), some (.val (.int z)), some (.own false dk2), some (.val (.tuple fs)), some (.val bent), slv s5, slv s6, none], by cases s4 <;> rfl, ?_⟩))
      -- some
      refine es_Seq (es_Asg (en_New (en_Sz (en_Cons (en_Var 3 rfl (en_Cons (en_Var 4 rfl (en_Cons (en_spoilt 2 (b0 := false) (dd := dk2) rfl b2 (by decide) (W := 10) (by decide) b1 rfl fun ben2 dk3 b3 b4 => ?_)))))))))
      refine en_Cons (en_Un (en_Var 3 rfl ⟨.tuple fs.reverse, rfl, ?_⟩))
      obtain ⟨m, hm, hlen, hall⟩ := fine_tup g2
      cases hm
      have hz : szOk (fs.length + min 1 fs.length) = true := decide_eq_true (by omega)
      refine en_Cons (en_Bin (en_Var 3 rfl (en_Sl (en_Var 3 rfl (en_NoPart (en_Part (en_C ⟨1, rfl, .tuple (fs.take 1), by simp [dSl, cutD_to1], .tuple (fs ++ fs.take 1), by simp [dAdd, hz], ?_⟩)))))))
      refine en_Cons (en_New (en_ListOf (en_Var 3 rfl ⟨fs, rfl, ?_⟩)))
      refine en_Cons (en_Tup (en_Nil ⟨by simp, ?_⟩))
      refine en_Cons (en_C ?_)
      obtain ⟨od, dk4, o1, o3, o4⟩ := odd_ok b4 (by decide)
      refine en_Cons (en_CallK 2 (b0 := false) (dd := dk3) rfl (en_Nil ⟨rfl, false, dk3, _, dk4, rfl, o1, en_Nil ⟨by simp, [some (.val sc), some (.val (.int z)), some (.own false dk4), some (.val (.tuple fs)), some (.val bent), some (.val (.list [.tuple fs, bent, ben2, .tuple fs.reverse, .tuple (fs ++ fs.take 1), .list fs, .tuple [], .none, od])), slv s6, none], by cases s5 <;> rfl, ?_⟩⟩))
      have up : ∀ d ∈ fs, fine 11 5 d = true := fun d hd => fine_mono (by decide) (Nat.le_refl _) (hall d hd)
      have fsome : ∀ d ∈ ([.tuple fs, bent, ben2, .tuple fs.reverse, .tuple (fs ++ fs.take 1), .list fs, .tuple [], .none, od] : List D), fine 11 6 d = true := by
        intro d hd
        simp only [List.mem_cons, List.not_mem_nil, or_false] at hd
        rcases hd with rfl | rfl | rfl | rfl | rfl | rfl | rfl | rfl | rfl
        · exact fine_mono (by decide) (Nat.le_refl _) g2
        · exact fine_mono (by decide) (Nat.le_refl _) b1
        · exact b3
        · exact fine_sq (tup := true) (by rw [List.length_reverse]; omega) fun d hd => up d (List.mem_reverse.mp hd)
        · refine fine_sq (tup := true) (by rw [List.length_append, List.length_take]; omega) fun d hd => ?_
          rcases List.mem_append.mp hd with q | q
          · exact up d q
          · exact up d (List.mem_of_mem_take q)
        · exact fine_sq (tup := false) (by omega) up
        · exact fine0
        · rfl
        · exact fine_mono (by decide) (Nat.le_refl _) o3
      obtain ⟨sm, hsm⟩ : ∃ sm : List D, sm = [.tuple fs, bent, ben2, .tuple fs.reverse, .tuple (fs ++ fs.take 1), .list fs, .tuple [], .none, od] := ⟨_, rfl⟩
      rw [← hsm] at fsome ⊢
      have hsl : sm.length = 9 := by rw [hsm]; rfl
      -- the things
      refine es_For (en_It (en_Bin (en_Bin (en_Var 5 rfl (en_New (en_Lc (en_Range1 (en_C ⟨4, rfl, by decide, by decide, by decide, _, rfl, ?_⟩))))))))
      refine ⟨fun j e acc => ∃ dk', e = [some (.val sc), some (.val (.int z)), some (.own false dk'), some (.val (.tuple fs)), some (.val bent), some (.val (.list sm)), slv s6, none] ∧ DOk (2000 + 20 * j) dk' ∧ acc.length ≤ j ∧ ∀ d ∈ acc, fine 11 6 d = true, ⟨dk4, rfl, o4.mono (by omega), Nat.le_refl _, fun _ h => nomatch h⟩, ?_, ?_⟩
      · rintro j k e acc hj ⟨dk', rfl, hdk', hal, hac⟩
        have hj4 : j < 4 := by
          have := (List.getElem?_eq_some_iff.mp hj).1
          rw [rangeD_len] at this
          exact this
        refine ⟨[some (.val sc), some (.val (.int z)), some (.own false dk'), some (.val (.tuple fs)), some (.val bent), some (.val (.list sm)), slv s6, some (.val k)], rfl, en_Yes (iteT (en_spoilt 2 (b0 := false) (dd := dk') rfl hdk' (by omega) (W := 9) (by decide) g2 rfl fun y dk5 y1 y2 => ⟨_, rfl, dk5, rfl, y2.mono (by omega), ?_, mem_app hac (fine_mono (by decide) (Nat.le_refl _) y1)⟩))⟩
        rw [List.length_append, List.length_singleton]
        omega
      · rintro e acc ⟨dk', rfl, hdk', hal, hac⟩
        have hal4 : acc.length ≤ 4 := hal
        have hdk' : DOk 2080 dk' := hdk'
        obtain ⟨ws, dk6, w1, w2, w3, w4⟩ := written_ok hdk' (by decide)
        have hz1 : szOk (sm.length + acc.length) = true := decide_eq_true (by omega)
        have hz2 : szOk (sm.length + acc.length + ws.length) = true := decide_eq_true (by omega)
        refine ⟨.list (sm ++ acc), by simp [dAdd, hz1], en_CallK 2 (b0 := false) (dd := dk') rfl (en_Nil ⟨rfl, false, dk', _, dk6, rfl, w1, .list (sm ++ acc ++ ws), by simp [dAdd, hz2], _, rfl, ?_⟩)⟩
        refine ⟨fun j e => ∃ s6, e = [some (.val sc), some (.val (.int z)), some (.own false dk6), some (.val (.tuple fs)), some (.val bent), some (.val (.list sm)), slv s6, none], ⟨s6, rfl⟩, ?_, ?_⟩
        · rintro j d e hj ⟨s6, rfl⟩
          have fd : fine 11 6 d = true := by
            rcases List.mem_append.mp (List.mem_of_getElem? hj) with q | q
            · rcases List.mem_append.mp q with q | q
              · exact fsome d q
              · exact hac d q
            · exact fine_mono (by decide) (Nat.le_refl _) (w3 d q)
          refine ⟨[some (.val sc), some (.val (.int z)), some (.own false dk6), some (.val (.tuple fs)), some (.val bent), some (.val (.list sm)), some (.val d), none], by cases s6 <;> rfl, es_If ⟨false, _, thing_same (W := 11) (by decide) fd rfl, es_Skip ⟨rfl, some d, rfl⟩⟩⟩
        · rintro e ⟨s6, rfl⟩
          exact ⟨rfl, some (.own false dk6), some (.int z), some (.tuple fs), some bent, some (.list sm), s6, rfl, by rw [hsc]; rfl⟩
    · rintro e ⟨o2, s1, s3, s4, s5, s6, hp2, rfl⟩
      exact es_Ret (en_C ⟨_, rfl, rfl⟩)
end PB

set_option maxHeartbeats 4000000
namespace PB
open PySem PySem.Spec PyProof.Rows L2
def topS (i : Nat) : Stmt := PySem.Challenge.pw_poolbook_k01_what_are_houses.main.body.getD i (.Pass ⟨0, 0, 0, 0⟩)
structure IntAt (mg : Str → Option Value) (x : Str) (i : Int) : Prop where
  ex : ∃ t, mg x = some (.int i t)
structure Top (K : Frag) (mg : Str → Option Value) : Prop where
  d_is_whole : DefAt K mg "is_whole" (topS 3)
  d_is_name : DefAt K mg "is_name" (topS 4)
  d_is_worth : DefAt K mg "is_worth" (topS 5)
  d_is_tuple : DefAt K mg "is_tuple" (topS 6)
  d_is_pair : DefAt K mg "is_pair" (topS 7)
  d_rises : DefAt K mg "rises" (topS 8)
  d_are_columns : DefAt K mg "are_columns" (topS 14)
  d_is_id : DefAt K mg "is_id" (topS 15)
  d_is_row : DefAt K mg "is_row" (topS 16)
  d_is_numbered_row : DefAt K mg "is_numbered_row" (topS 17)
  d_are_rows : DefAt K mg "are_rows" (topS 18)
  d_is_table : DefAt K mg "is_table" (topS 19)
  d_is_house : DefAt K mg "is_house" (topS 20)
  d_are_houses : DefAt K mg "are_houses" (topS 21)
  d_law_deck : DefAt K mg "_law_deck" (topS 23)
  d_law_pick : DefAt K mg "_law_pick" (topS 24)
  d_law_whole : DefAt K mg "_law_whole" (topS 25)
  d_law_one : DefAt K mg "_law_one" (topS 26)
  d_law_sort : DefAt K mg "_law_sort" (topS 27)
  d_law_same : DefAt K mg "_law_same" (topS 28)
  d_law_odd : DefAt K mg "_law_odd" (topS 29)
  d_law_spoilt : DefAt K mg "_law_spoilt" (topS 30)
  d_law_worth : DefAt K mg "_law_worth" (topS 31)
  d_law_houses : DefAt K mg "_law_houses" (topS 32)
  d_law_is_name : DefAt K mg "_law_is_name" (topS 33)
  d_law_rises : DefAt K mg "_law_rises" (topS 34)
  d_law_are_pairs : DefAt K mg "_law_are_pairs" (topS 35)
  d_law_is_worth : DefAt K mg "_law_is_worth" (topS 36)
  d_law_is_table : DefAt K mg "_law_is_table" (topS 37)
  d_law_good : DefAt K mg "_law_good" (topS 38)
  d_law_written : DefAt K mg "_law_written" (topS 39)
  d_law : DefAt K mg "law" (topS 40)
  c_LONGEST_NAME : IntAt mg "LONGEST_NAME" 8
  c_FARTHEST_WORTH : IntAt mg "FARTHEST_WORTH" 1000000
  c_MOST_HOUSES : IntAt mg "MOST_HOUSES" 4
  c_MOST_COLUMNS : IntAt mg "MOST_COLUMNS" 5
  c_MOST_ROWS : IntAt mg "MOST_ROWS" 8
  c_LAST_ID : IntAt mg "LAST_ID" 999
  b_all : mg "all" = none
  b_bool : mg "bool" = none
  b_enumerate : mg "enumerate" = none
  b_int : mg "int" = none
  b_isinstance : mg "isinstance" = none
  b_len : mg "len" = none
  b_list : mg "list" = none
  b_range : mg "range" = none
  b_str : mg "str" = none
  b_tuple : mg "tuple" = none
  b_zip : mg "zip" = none
section
variable {P : Program} {w : World} {K : Frag} {mg : Str → Option Value} {base : Heap}
theorem sc_is_whole : FnScope ["thing"] ["thing"] (defScope (topS 3)) := ⟨rfl, rfl, rfl, by decide +kernel, rfl, by decide +kernel, by decide +kernel⟩
theorem ok_is_whole (T : Top K mg) : DefOk P w K mg base 1 "is_whole" (spP K 1 f_is_whole) :=
  def_pure T.d_is_whole sc_is_whole (by decide) (fun _ _ _ _ _ _ us hl => match us, hl with | [_], _ => rfl) fun f cdv A outer s H E hr => (by unfold M_is_whole; exact (jss_one (js_ret (je_and (je_isi (T := "int") (by rfl) T.b_isinstance (jv 0) (by rfl) T.b_int (by decide +kernel)) (je_one (je_not (je_isi (T := "bool") (by rfl) T.b_isinstance (jv 0) (by rfl) T.b_bool (by decide +kernel))))))))
theorem sc_is_name : FnScope ["thing", "sign"] ["thing"] (defScope (topS 4)) := ⟨rfl, rfl, rfl, by decide +kernel, rfl, by decide +kernel, by decide +kernel⟩
theorem ok_is_name (T : Top K mg) : DefOk P w K mg base 1 "is_name" (spP K 1 f_is_name) :=
  def_pure T.d_is_name sc_is_name (by decide) (fun _ _ _ _ _ _ us hl => match us, hl with | [_], _ => rfl) fun f cdv A outer s H E hr => (by unfold M_is_name; exact (jss_cons (js_if (jt_w (jw_or (jt_not (jt_val (je_isi (T := "str") (by rfl) T.b_isinstance (jv 0) (by rfl) T.b_str (by decide +kernel)))) (jw_or1 (jt_not (jt_chain od_le od_le je_int (je_len (by rfl) T.b_len (jv 0)) (je_gint (by rfl) T.c_LONGEST_NAME.ex)))))) (jss_one (js_ret je_bl)) jss_nil)
    (jss_one (js_ret (je_all rfl (by rfl) T.b_all (je_new (jn_lc (own := [("sign", 1)]) rfl sc_is_name.nd (ji_any (jv 0)) (blkOk_by (N := ["thing", "sign"]) (sc := defScope (topS 4)) (by decide +kernel)) (fun _ _ _ _ _ => (jg_name (i := 1) sc_is_name.nd rfl (.inl rfl))) (fun _ _ _ _ _ => jts_nil) (fun _ _ _ _ _ => (je_chain od_le od_le je_str (jv 1) je_str)))))))))
theorem sc_is_tuple : FnScope ["thing", "fewest", "most"] ["thing", "fewest", "most"] (defScope (topS 6)) := ⟨rfl, rfl, rfl, by decide +kernel, rfl, by decide +kernel, by decide +kernel⟩
theorem ok_is_tuple (T : Top K mg) : DefOk P w K mg base 1 "is_tuple" (spP K 3 f_is_tuple) :=
  def_pure T.d_is_tuple sc_is_tuple (by decide) (fun _ _ _ _ _ _ us hl => match us, hl with | [_, _, _], _ => rfl) fun f cdv A outer s H E hr => (by unfold M_is_tuple; exact (jss_one (js_ret (je_and (je_isi (T := "tuple") (by rfl) T.b_isinstance (jv 0) (by rfl) T.b_tuple (by decide +kernel)) (je_one (je_chain od_le od_le (jv 1) (je_len (by rfl) T.b_len (jv 0)) (jv 2)))))))
theorem sc_is_pair : FnScope ["thing"] ["thing"] (defScope (topS 7)) := ⟨rfl, rfl, rfl, by decide +kernel, rfl, by decide +kernel, by decide +kernel⟩
theorem ok_is_pair (T : Top K mg) : DefOk P w K mg base 1 "is_pair" (spP K 1 f_is_pair) :=
  def_pure T.d_is_pair sc_is_pair (by decide) (fun _ _ _ _ _ _ us hl => match us, hl with | [_], _ => rfl) fun f cdv A outer s H E hr => (by unfold M_is_pair; exact (jss_one (js_ret (je_and (je_isi (T := "tuple") (by rfl) T.b_isinstance (jv 0) (by rfl) T.b_tuple (by decide +kernel)) (je_one (je_cmp (od_eq hr.units) (je_len (by rfl) T.b_len (jv 0)) je_int (nomark _)))))))
theorem sc_rises : FnScope ["members", "one", "other"] ["members"] (defScope (topS 8)) := ⟨rfl, rfl, rfl, by decide +kernel, rfl, by decide +kernel, by decide +kernel⟩
theorem ok_rises (T : Top K mg) : DefOk P w K mg base 1 "rises" (spP K 1 f_rises) :=
  def_pure T.d_rises sc_rises (by decide) (fun _ _ _ _ _ _ us hl => match us, hl with | [_], _ => rfl) fun f cdv A outer s H E hr => (by unfold M_rises; exact (jss_one (js_ret (je_all rfl (by rfl) T.b_all (je_new (jn_lc (own := [("one", 1), ("other", 2)]) rfl sc_rises.nd (ji_zip (by rfl) T.b_zip (jv 0) (je_slice (jv 0) (jo_some je_int) jo_none)) (blkOk_by (N := ["members", "one", "other"]) (sc := defScope (topS 8)) (by decide +kernel)) (fun _ _ _ _ _ => (jg_tup rfl (jgs_cons (jg_name (i := 1) sc_rises.nd rfl (.inl rfl)) (jgs_cons (jg_name (i := 2) sc_rises.nd rfl (.inl rfl)) jgs_nil)))) (fun _ _ _ _ _ => jts_nil) (fun _ _ _ _ _ => (je_cmp od_lt (jv 1) (jv 2) (nomark _)))))))))
theorem sc_law_deck : FnScope ["cell_", "turn"] ["cell_", "turn"] (defScope (topS 23)) := ⟨rfl, rfl, rfl, by decide +kernel, rfl, by decide +kernel, by decide +kernel⟩
theorem ok_law_deck (T : Top K mg) : DefOk P w K mg base 1 "_law_deck" (spP K 2 f_law_deck) :=
  def_pure T.d_law_deck sc_law_deck (by decide) (fun _ _ _ _ _ _ us hl => match us, hl with | [_, _], _ => rfl) fun f cdv A outer s H E hr => (by unfold M_law_deck; exact (jss_cons (js_if (jt_cmp od_ge (jv 0) (je_bin od_pow je_int je_int) (nomark _)) (jss_one (js_retNew (jn_lst (ja_cons (je_bin od_sub (jv 0) (je_bin od_pow je_int je_int)) (ja_cons (je_bin od_mod (jv 0) je_int) (ja_cons (jv 1) ja_nil)))))) jss_nil)
    (jss_one (js_retNew (jn_lst (ja_cons je_int (ja_cons (je_bin od_mod (jv 0) je_int) (ja_cons (jv 1) ja_nil))))))))
theorem sc_law_pick : FnScope ["deck", "size", "number", "found"] ["deck", "size"] (defScope (topS 24)) := ⟨rfl, rfl, rfl, by decide +kernel, rfl, by decide +kernel, by decide +kernel⟩
theorem ok_law_pick (T : Top K mg) : DefOk P w K mg base 1 "_law_pick" (spK K 2 f_law_pick) :=
  def_deck T.d_law_pick sc_law_pick (by decide) (fun _ _ _ _ _ _ us hl => match us, hl with | [_, _], _ => rfl) fun f cdv A outer s H E hr => (by unfold M_law_pick; exact (jss_cons (js_if (jt_cmp od_gt (je_ixOwn 0 je_int (fun _ _ => rfl)) je_int (nomark _)) (jss_cons (js_set (i := 3) sc_law_pick.nd rfl (.inl rfl) (je_bin od_mod (je_ixOwn 0 je_int (fun _ _ => rfl)) (jv 1)))
    (jss_cons (js_setIx 0 (je_bin od_fdiv (je_ixOwn 0 je_int (fun _ _ => rfl)) (jv 1)) je_int)
    (jss_one (js_ret (jv 3))))) jss_nil)
    (jss_cons (js_setIx 0 (je_bin od_add (je_ixOwn 0 je_int (fun _ _ => rfl)) je_int) je_int)
    (jss_cons (js_set (i := 2) sc_law_pick.nd rfl (.inl rfl) (je_bin od_mod (je_bin od_pow (je_bin od_add (je_ixOwn 0 je_int (fun _ _ => rfl)) (je_bin od_mul je_int (je_ixOwn 0 je_int (fun _ _ => rfl)))) je_int) je_int))
    (jss_cons (js_set (i := 3) sc_law_pick.nd rfl (.inl rfl) (je_bin od_fdiv (je_bin od_mod (je_bin od_pow (je_bin od_add (jv 2) (je_bin od_mul je_int (je_ixOwn 0 je_int (fun _ _ => rfl)))) je_int) je_int) je_int))
    (jss_one (js_ret (je_bin od_mod (jv 3) (jv 1)))))))))
theorem sc_law_whole : FnScope ["thing"] ["thing"] (defScope (topS 25)) := ⟨rfl, rfl, rfl, by decide +kernel, rfl, by decide +kernel, by decide +kernel⟩
theorem ok_law_whole (T : Top K mg) : DefOk P w K mg base 1 "_law_whole" (spP K 1 f_law_whole) :=
  def_pure T.d_law_whole sc_law_whole (by decide) (fun _ _ _ _ _ _ us hl => match us, hl with | [_], _ => rfl) fun f cdv A outer s H E hr => (by unfold M_law_whole; exact (jss_one (js_ret (je_and (je_isi (T := "int") (by rfl) T.b_isinstance (jv 0) (by rfl) T.b_int (by decide +kernel)) (je_one (je_not (je_isi (T := "bool") (by rfl) T.b_isinstance (jv 0) (by rfl) T.b_bool (by decide +kernel))))))))
theorem sc_law_sort : FnScope ["thing"] ["thing"] (defScope (topS 27)) := ⟨rfl, rfl, rfl, by decide +kernel, rfl, by decide +kernel, by decide +kernel⟩
theorem ok_law_sort (T : Top K mg) : DefOk P w K mg base 1 "_law_sort" (spP K 1 f_law_sort) :=
  def_pure T.d_law_sort sc_law_sort (by decide) (fun _ _ _ _ _ _ us hl => match us, hl with | [_], _ => rfl) fun f cdv A outer s H E hr => (by unfold M_law_sort; exact (jss_cons (js_if (jt_val (je_isi (T := "bool") (by rfl) T.b_isinstance (jv 0) (by rfl) T.b_bool (by decide +kernel))) (jss_one (js_ret je_int)) jss_nil)
    (jss_cons (js_if (jt_val (je_isi (T := "int") (by rfl) T.b_isinstance (jv 0) (by rfl) T.b_int (by decide +kernel))) (jss_one (js_ret je_int)) jss_nil)
    (jss_cons (js_if (jt_val (je_isi (T := "str") (by rfl) T.b_isinstance (jv 0) (by rfl) T.b_str (by decide +kernel))) (jss_one (js_ret je_int)) jss_nil)
    (jss_cons (js_if (jt_val (je_isi (T := "list") (by rfl) T.b_isinstance (jv 0) (by rfl) T.b_list (by decide +kernel))) (jss_one (js_ret je_int)) jss_nil)
    (jss_one (js_ret (je_if (jt_val (je_isi (T := "tuple") (by rfl) T.b_isinstance (jv 0) (by rfl) T.b_tuple (by decide +kernel))) je_int je_int))))))))
theorem sc_law_is_name : FnScope ["thing", "sign"] ["thing"] (defScope (topS 33)) := ⟨rfl, rfl, rfl, by decide +kernel, rfl, by decide +kernel, by decide +kernel⟩
theorem ok_law_is_name (T : Top K mg) : DefOk P w K mg base 1 "_law_is_name" (spP K 1 f_law_is_name) :=
  def_pure T.d_law_is_name sc_law_is_name (by decide) (fun _ _ _ _ _ _ us hl => match us, hl with | [_], _ => rfl) fun f cdv A outer s H E hr => (by unfold M_law_is_name; exact (jss_cons (js_if (jt_w (jw_or (jt_not (jt_val (je_isi (T := "str") (by rfl) T.b_isinstance (jv 0) (by rfl) T.b_str (by decide +kernel)))) (jw_or1 (jt_not (jt_chain od_le od_le je_int (je_len (by rfl) T.b_len (jv 0)) je_int))))) (jss_one (js_ret je_bl)) jss_nil)
    (jss_one (js_ret (je_cmp (od_eq hr.units) (je_new (jn_lc (own := [("sign", 1)]) rfl sc_law_is_name.nd (ji_any (jv 0)) (blkOk_by (N := ["thing", "sign"]) (sc := defScope (topS 33)) (by decide +kernel)) (fun _ _ _ _ _ => (jg_name (i := 1) sc_law_is_name.nd rfl (.inl rfl))) (fun _ _ _ _ _ => (jts_one (jt_not (jt_chain od_le od_le je_str (jv 1) je_str)))) (fun _ _ _ _ _ => (jv 1)))) (je_new (jn_lst ja_nil)) (nomark _))))))
theorem sc_law_rises : FnScope ["some", "k"] ["some"] (defScope (topS 34)) := ⟨rfl, rfl, rfl, by decide +kernel, rfl, by decide +kernel, by decide +kernel⟩
theorem ok_law_rises (T : Top K mg) : DefOk P w K mg base 1 "_law_rises" (spP K 1 f_law_rises) :=
  def_pure T.d_law_rises sc_law_rises (by decide) (fun _ _ _ _ _ _ us hl => match us, hl with | [_], _ => rfl) fun f cdv A outer s H E hr => (by unfold M_law_rises; exact (jss_one (js_ret (je_cmp (od_eq hr.units) (je_new (jn_lc (own := [("k", 1)]) rfl sc_law_rises.nd (ji_range2 (by rfl) T.b_range je_int (je_len (by rfl) T.b_len (jv 0))) (blkOk_by (N := ["some", "k"]) (sc := defScope (topS 34)) (by decide +kernel)) (fun _ _ _ _ _ => (jg_name (i := 1) sc_law_rises.nd rfl (.inl rfl))) (fun _ _ _ _ _ => (jts_one (jt_cmp od_ge (je_ix (jv 0) (je_bin od_sub (jv 1) je_int) (fun _ _ => rfl)) (je_ix (jv 0) (jv 1) (fun _ _ => rfl)) (nomark _)))) (fun _ _ _ _ _ => (jv 1)))) (je_new (jn_lst ja_nil)) (nomark _)))))
theorem sc_law_are_pairs : FnScope ["thing", "most", "one"] ["thing", "most"] (defScope (topS 35)) := ⟨rfl, rfl, rfl, by decide +kernel, rfl, by decide +kernel, by decide +kernel⟩
theorem ok_law_are_pairs (T : Top K mg) : DefOk P w K mg base 1 "_law_are_pairs" (spP K 2 f_law_are_pairs) :=
  def_pure T.d_law_are_pairs sc_law_are_pairs (by decide) (fun _ _ _ _ _ _ us hl => match us, hl with | [_, _], _ => rfl) fun f cdv A outer s H E hr => (by unfold M_law_are_pairs; exact (jss_cons (js_if (jt_w (jw_or (jt_not (jt_val (je_isi (T := "tuple") (by rfl) T.b_isinstance (jv 0) (by rfl) T.b_tuple (by decide +kernel)))) (jw_or1 (jt_cmp od_gt (je_len (by rfl) T.b_len (jv 0)) (jv 1) (nomark _))))) (jss_one (js_ret je_bl)) jss_nil)
    (jss_one (js_ret (je_cmp (od_eq hr.units) (je_new (jn_lc (own := [("one", 2)]) rfl sc_law_are_pairs.nd (ji_any (jv 0)) (blkOk_by (N := ["thing", "most", "one"]) (sc := defScope (topS 35)) (by decide +kernel)) (fun _ _ _ _ _ => (jg_name (i := 2) sc_law_are_pairs.nd rfl (.inl rfl))) (fun _ _ _ _ _ => (jts_one (jt_w (jw_or (jt_not (jt_val (je_isi (T := "tuple") (by rfl) T.b_isinstance (jv 2) (by rfl) T.b_tuple (by decide +kernel)))) (jw_or1 (jt_cmp (od_ne hr.units) (je_len (by rfl) T.b_len (jv 2)) je_int (nomark _))))))) (fun _ _ _ _ _ => (jv 2)))) (je_new (jn_lst ja_nil)) (nomark _))))))
theorem sc_is_worth : FnScope ["thing"] ["thing"] (defScope (topS 5)) := ⟨rfl, rfl, rfl, by decide +kernel, rfl, by decide +kernel, by decide +kernel⟩
theorem ok_is_worth (T : Top K mg) (ok_is_whole : DefOk P w K mg base 1 "is_whole" (spP K 1 f_is_whole)) (ok_is_name : DefOk P w K mg base 1 "is_name" (spP K 1 f_is_name)) : DefOk P w K mg base 2 "is_worth" (spP K 1 f_is_worth) :=
  def_pure T.d_is_worth sc_is_worth (by decide) (fun _ _ _ _ _ _ us hl => match us, hl with | [_], _ => rfl) fun f cdv A outer s H E hr => (by unfold M_is_worth; exact (jss_cons (js_if (jt_val (je_call (ok_is_whole.mono (by decide)) hr (by rfl) (ja_cons (jv 0) ja_nil))) (jss_one (js_ret (je_chain od_le od_le (je_neg (je_gint (by rfl) T.c_FARTHEST_WORTH.ex)) (jv 0) (je_gint (by rfl) T.c_FARTHEST_WORTH.ex)))) jss_nil)
    (jss_one (js_ret (je_call (ok_is_name.mono (by decide)) hr (by rfl) (ja_cons (jv 0) ja_nil))))))
theorem sc_are_columns : FnScope ["thing", "name"] ["thing"] (defScope (topS 14)) := ⟨rfl, rfl, rfl, by decide +kernel, rfl, by decide +kernel, by decide +kernel⟩
theorem ok_are_columns (T : Top K mg) (ok_is_name : DefOk P w K mg base 1 "is_name" (spP K 1 f_is_name)) (ok_is_tuple : DefOk P w K mg base 1 "is_tuple" (spP K 3 f_is_tuple)) (ok_rises : DefOk P w K mg base 1 "rises" (spP K 1 f_rises)) : DefOk P w K mg base 2 "are_columns" (spP K 1 f_are_columns) :=
  def_pure T.d_are_columns sc_are_columns (by decide) (fun _ _ _ _ _ _ us hl => match us, hl with | [_], _ => rfl) fun f cdv A outer s H E hr => (by unfold M_are_columns; exact (jss_cons (js_if (jt_not (jt_val (je_call (ok_is_tuple.mono (by decide)) hr (by rfl) (ja_cons (jv 0) (ja_cons je_int (ja_cons (je_gint (by rfl) T.c_MOST_COLUMNS.ex) ja_nil)))))) (jss_one (js_ret je_bl)) jss_nil)
    (jss_one (js_ret (je_and (je_all rfl (by rfl) T.b_all (je_new (jn_lc (own := [("name", 1)]) rfl sc_are_columns.nd (ji_any (jv 0)) (blkOk_by (N := ["thing", "name"]) (sc := defScope (topS 14)) (by decide +kernel)) (fun _ _ _ _ _ => (jg_name (i := 1) sc_are_columns.nd rfl (.inl rfl))) (fun _ _ _ _ _ => jts_nil) (fun _ _ _ _ _ => (je_call (ok_is_name.mono (by decide)) hr (by rfl) (ja_cons (jv 1) ja_nil)))))) (je_one (je_call (ok_rises.mono (by decide)) hr (by rfl) (ja_cons (jv 0) ja_nil))))))))
theorem sc_is_id : FnScope ["thing"] ["thing"] (defScope (topS 15)) := ⟨rfl, rfl, rfl, by decide +kernel, rfl, by decide +kernel, by decide +kernel⟩
theorem ok_is_id (T : Top K mg) (ok_is_whole : DefOk P w K mg base 1 "is_whole" (spP K 1 f_is_whole)) : DefOk P w K mg base 2 "is_id" (spP K 1 f_is_id) :=
  def_pure T.d_is_id sc_is_id (by decide) (fun _ _ _ _ _ _ us hl => match us, hl with | [_], _ => rfl) fun f cdv A outer s H E hr => (by unfold M_is_id; exact (jss_one (js_ret (je_and (je_call (ok_is_whole.mono (by decide)) hr (by rfl) (ja_cons (jv 0) ja_nil)) (je_one (je_chain od_le od_le je_int (jv 0) (je_gint (by rfl) T.c_LAST_ID.ex)))))))
theorem sc_law_one : FnScope ["deck", "some"] ["deck", "some"] (defScope (topS 26)) := ⟨rfl, rfl, rfl, by decide +kernel, rfl, by decide +kernel, by decide +kernel⟩
theorem ok_law_one (T : Top K mg) (ok_law_pick : DefOk P w K mg base 1 "_law_pick" (spK K 2 f_law_pick)) : DefOk P w K mg base 2 "_law_one" (spK K 2 f_law_one) :=
  def_deck T.d_law_one sc_law_one (by decide) (fun _ _ _ _ _ _ us hl => match us, hl with | [_, _], _ => rfl) fun f cdv A outer s H E hr => (by unfold M_law_one; exact (jss_one (js_ret (je_ix (jv 1) (je_callK 0 (ok_law_pick.mono (by decide)) hr (by rfl) (ja_cons (je_len (by rfl) T.b_len (jv 1)) ja_nil)) (fun _ _ => rfl)))))
theorem sc_law_is_worth : FnScope ["thing"] ["thing"] (defScope (topS 36)) := ⟨rfl, rfl, rfl, by decide +kernel, rfl, by decide +kernel, by decide +kernel⟩
theorem ok_law_is_worth (T : Top K mg) (ok_law_whole : DefOk P w K mg base 1 "_law_whole" (spP K 1 f_law_whole)) (ok_law_is_name : DefOk P w K mg base 1 "_law_is_name" (spP K 1 f_law_is_name)) : DefOk P w K mg base 2 "_law_is_worth" (spP K 1 f_law_is_worth) :=
  def_pure T.d_law_is_worth sc_law_is_worth (by decide) (fun _ _ _ _ _ _ us hl => match us, hl with | [_], _ => rfl) fun f cdv A outer s H E hr => (by unfold M_law_is_worth; exact (jss_one (js_ret (je_or (je_call (ok_law_is_name.mono (by decide)) hr (by rfl) (ja_cons (jv 0) ja_nil)) (je_one (je_and (je_call (ok_law_whole.mono (by decide)) hr (by rfl) (ja_cons (jv 0) ja_nil)) (je_one (je_chain od_le od_le (je_bin od_sub je_int (je_bin od_pow je_int je_int)) (jv 0) (je_bin od_pow je_int je_int)))))))))
theorem sc_law_written : FnScope ["deck", "rows", "columns", "some", "names", "worth", "number", "k", "name"] ["deck"] (defScope (topS 39)) := ⟨rfl, rfl, rfl, by decide +kernel, rfl, by decide +kernel, by decide +kernel⟩
theorem ok_law_written (T : Top K mg) (ok_law_pick : DefOk P w K mg base 1 "_law_pick" (spK K 2 f_law_pick)) : DefOk P w K mg base 2 "_law_written" (spK K 1 f_law_written) :=
  def_deck T.d_law_written sc_law_written (by decide) (fun _ _ _ _ _ _ us hl => match us, hl with | [_], _ => rfl) fun f cdv A outer s H E hr => (by unfold M_law_written; exact (jss_cons (js_set (i := 1) sc_law_written.nd rfl (.inl rfl) (je_tuple (by rfl) T.b_tuple (je_new (jn_lc (own := [("k", 7)]) rfl sc_law_written.nd (ji_range1 (by rfl) T.b_range (je_bin od_add je_int (je_callK 0 (ok_law_pick.mono (by decide)) hr (by rfl) (ja_cons je_int ja_nil)))) (blkOk_by (N := ["deck", "rows", "columns", "some", "names", "worth", "number", "k", "name"]) (sc := defScope (topS 39)) (by decide +kernel)) (fun _ _ _ _ _ => (jg_name (i := 7) sc_law_written.nd rfl (.inl rfl))) (fun _ _ _ _ _ => jts_nil) (fun _ _ _ _ _ => (je_tup (ja_cons (jv 7) (ja_cons (je_tup (ja_cons (jv 7) (ja_cons je_non ja_nil))) ja_nil))))))))
    (jss_cons (js_set (i := 2) sc_law_written.nd rfl (.inl rfl) (je_slice (je_tup (ja_cons je_str (ja_cons je_str (ja_cons je_str (ja_cons je_str (ja_cons je_str (ja_cons je_str ja_nil))))))) jo_none (jo_some (je_bin od_add je_int (je_callK 0 (ok_law_pick.mono (by decide)) hr (by rfl) (ja_cons je_int ja_nil))))))
    (jss_cons (js_setOwn (i := 3) sc_law_written.nd rfl (.inl rfl) (jn_lst (ja_cons (je_tup (ja_cons (je_tup (ja_cons je_str (ja_cons (je_tup (ja_cons (je_tup (ja_cons je_str (ja_cons je_str ja_nil))) (ja_cons (jv 1) ja_nil))) ja_nil))) ja_nil)) (ja_cons (je_tup (ja_cons (je_tup (ja_cons je_str (ja_cons (je_tup (ja_cons (jv 2) (ja_cons (je_tup ja_nil) ja_nil))) ja_nil))) ja_nil)) ja_nil))))
    (jss_cons (js_set (i := 4) sc_law_written.nd rfl (.inl rfl) (je_slice (je_new (jn_lst (ja_cons je_str (ja_cons je_str (ja_cons je_str (ja_cons je_str (ja_cons je_str ja_nil))))))) jo_none (jo_some (je_bin od_add je_int (je_callK 0 (ok_law_pick.mono (by decide)) hr (by rfl) (ja_cons je_int ja_nil))))))
    (jss_cons (js_expr (je_append 3 (je_tuple (by rfl) T.b_tuple (je_new (jn_lc (own := [("name", 8)]) rfl sc_law_written.nd (ji_any (jv 4)) (blkOk_by (N := ["deck", "rows", "columns", "some", "names", "worth", "number", "k", "name"]) (sc := defScope (topS 39)) (by decide +kernel)) (fun _ _ _ _ _ => (jg_name (i := 8) sc_law_written.nd rfl (.inl rfl))) (fun _ _ _ _ _ => jts_nil) (fun _ _ _ _ _ => (je_tup (ja_cons (jv 8) (ja_cons (je_tup (ja_cons (je_tup (ja_cons je_str ja_nil)) (ja_cons (je_tup ja_nil) ja_nil))) ja_nil)))))))))
    (jss_cons (js_for PassesOwn.never rfl (ji_any (je_new (jn_lst (ja_cons (je_bin od_pow je_int je_int) (ja_cons (je_bin od_add (je_bin od_pow je_int je_int) je_int) (ja_cons (je_bin od_sub je_int (je_bin od_pow je_int je_int)) (ja_cons (je_bin od_sub (je_bin od_sub je_int (je_bin od_pow je_int je_int)) je_int) (ja_cons je_str (ja_cons je_str (ja_cons je_str (ja_cons je_bl (ja_cons je_str ja_nil)))))))))))) (jg_name (i := 5) sc_law_written.nd rfl (.inl rfl)) (jss_one (js_expr (je_append 3 (je_tup (ja_cons (je_tup (ja_cons je_str (ja_cons (je_tup (ja_cons (je_tup (ja_cons je_str ja_nil)) (ja_cons (je_tup (ja_cons (je_tup (ja_cons je_int (ja_cons (je_tup (ja_cons (jv 5) ja_nil)) ja_nil))) ja_nil)) ja_nil))) ja_nil))) ja_nil))))))
    (jss_cons (js_for PassesOwn.never rfl (ji_any (je_new (jn_lst (ja_cons je_int (ja_cons je_int (ja_cons je_int (ja_cons (je_neg je_int) (ja_cons je_bl (ja_cons je_non ja_nil))))))))) (jg_name (i := 6) sc_law_written.nd rfl (.inl rfl)) (jss_one (js_expr (je_append 3 (je_tup (ja_cons (je_tup (ja_cons je_str (ja_cons (je_tup (ja_cons (je_tup (ja_cons je_str ja_nil)) (ja_cons (je_tup (ja_cons (je_tup (ja_cons (jv 6) (ja_cons (je_tup (ja_cons je_int ja_nil)) ja_nil))) ja_nil)) ja_nil))) ja_nil))) ja_nil))))))
    (jss_one (js_ret (jv 3)))))))))))
theorem sc_is_row : FnScope ["columns", "thing", "worth"] ["columns", "thing"] (defScope (topS 16)) := ⟨rfl, rfl, rfl, by decide +kernel, rfl, by decide +kernel, by decide +kernel⟩
theorem ok_is_row (T : Top K mg) (ok_is_tuple : DefOk P w K mg base 1 "is_tuple" (spP K 3 f_is_tuple)) (ok_is_worth : DefOk P w K mg base 2 "is_worth" (spP K 1 f_is_worth)) : DefOk P w K mg base 3 "is_row" (spP K 2 f_is_row) :=
  def_pure T.d_is_row sc_is_row (by decide) (fun _ _ _ _ _ _ us hl => match us, hl with | [_, _], _ => rfl) fun f cdv A outer s H E hr => (by unfold M_is_row; exact (jss_cons (js_if (jt_not (jt_val (je_call (ok_is_tuple.mono (by decide)) hr (by rfl) (ja_cons (jv 1) (ja_cons (je_len (by rfl) T.b_len (jv 0)) (ja_cons (je_len (by rfl) T.b_len (jv 0)) ja_nil)))))) (jss_one (js_ret je_bl)) jss_nil)
    (jss_one (js_ret (je_all rfl (by rfl) T.b_all (je_new (jn_lc (own := [("worth", 2)]) rfl sc_is_row.nd (ji_any (jv 1)) (blkOk_by (N := ["columns", "thing", "worth"]) (sc := defScope (topS 16)) (by decide +kernel)) (fun _ _ _ _ _ => (jg_name (i := 2) sc_is_row.nd rfl (.inl rfl))) (fun _ _ _ _ _ => jts_nil) (fun _ _ _ _ _ => (je_or (je_cmp od_is (jv 2) je_non (nomark _)) (je_one (je_call (ok_is_worth.mono (by decide)) hr (by rfl) (ja_cons (jv 2) ja_nil))))))))))))
theorem sc_law_odd : FnScope ["deck", "some"] ["deck"] (defScope (topS 29)) := ⟨rfl, rfl, rfl, by decide +kernel, rfl, by decide +kernel, by decide +kernel⟩
theorem ok_law_odd (T : Top K mg) (ok_law_one : DefOk P w K mg base 2 "_law_one" (spK K 2 f_law_one)) : DefOk P w K mg base 3 "_law_odd" (spK K 1 f_law_odd) :=
  def_deck T.d_law_odd sc_law_odd (by decide) (fun _ _ _ _ _ _ us hl => match us, hl with | [_], _ => rfl) fun f cdv A outer s H E hr => (by unfold M_law_odd; exact (jss_cons (js_set (i := 1) sc_law_odd.nd rfl (.inl rfl) (je_new (jn_lst (ja_cons je_non (ja_cons je_bl (ja_cons je_str (ja_cons je_str (ja_cons (je_tup ja_nil) (ja_cons (je_new (jn_lst ja_nil)) (ja_cons (je_tup (ja_cons (je_tup ja_nil) ja_nil)) (ja_cons je_int (ja_cons (je_neg je_int) (ja_cons (je_tup (ja_cons je_str (ja_cons je_str ja_nil))) (ja_cons (je_tup (ja_cons je_str (ja_cons je_int ja_nil))) (ja_cons (je_bin od_pow je_int je_int) (ja_cons (je_tup (ja_cons je_str (ja_cons je_bl ja_nil))) (ja_cons (je_tup (ja_cons je_int (ja_cons je_int ja_nil))) (ja_cons je_str ja_nil))))))))))))))))))
    (jss_one (js_ret (je_callK 0 (ok_law_one.mono (by decide)) hr (by rfl) (ja_cons (jv 1) ja_nil))))))
theorem sc_law_worth : FnScope ["deck"] ["deck"] (defScope (topS 31)) := ⟨rfl, rfl, rfl, by decide +kernel, rfl, by decide +kernel, by decide +kernel⟩
theorem ok_law_worth (T : Top K mg) (ok_law_pick : DefOk P w K mg base 1 "_law_pick" (spK K 2 f_law_pick)) (ok_law_one : DefOk P w K mg base 2 "_law_one" (spK K 2 f_law_one)) : DefOk P w K mg base 3 "_law_worth" (spK K 1 f_law_worth) :=
  def_deck T.d_law_worth sc_law_worth (by decide) (fun _ _ _ _ _ _ us hl => match us, hl with | [_], _ => rfl) fun f cdv A outer s H E hr => (by unfold M_law_worth; exact (jss_one (js_ret (je_callK 0 (ok_law_one.mono (by decide)) hr (by rfl) (ja_cons (je_new (jn_lst (ja_cons je_non (ja_cons je_int (ja_cons je_int (ja_cons je_int (ja_cons je_int (ja_cons je_int (ja_cons je_str (ja_cons je_str (ja_cons (je_bin od_sub (je_callK 0 (ok_law_pick.mono (by decide)) hr (by rfl) (ja_cons je_int ja_nil)) je_int) ja_nil))))))))))) ja_nil)))))
theorem sc_law_is_table : FnScope ["thing", "columns", "rows", "number", "row", "bad", "worth", "one"] ["thing"] (defScope (topS 37)) := ⟨rfl, rfl, rfl, by decide +kernel, rfl, by decide +kernel, by decide +kernel⟩
theorem ok_law_is_table (T : Top K mg) (ok_law_whole : DefOk P w K mg base 1 "_law_whole" (spP K 1 f_law_whole)) (ok_law_is_name : DefOk P w K mg base 1 "_law_is_name" (spP K 1 f_law_is_name)) (ok_law_rises : DefOk P w K mg base 1 "_law_rises" (spP K 1 f_law_rises)) (ok_law_are_pairs : DefOk P w K mg base 1 "_law_are_pairs" (spP K 2 f_law_are_pairs)) (ok_law_is_worth : DefOk P w K mg base 2 "_law_is_worth" (spP K 1 f_law_is_worth)) : DefOk P w K mg base 3 "_law_is_table" (spP K 1 f_law_is_table) :=
  def_pure T.d_law_is_table sc_law_is_table (by decide) (fun _ _ _ _ _ _ us hl => match us, hl with | [_], _ => rfl) fun f cdv A outer s H E hr => (by unfold M_law_is_table; exact (jss_cons (js_if (jt_w (jw_or (jt_not (jt_val (je_isi (T := "tuple") (by rfl) T.b_isinstance (jv 0) (by rfl) T.b_tuple (by decide +kernel)))) (jw_or (jt_cmp (od_ne hr.units) (je_len (by rfl) T.b_len (jv 0)) je_int (nomark _)) (jw_or1 (jt_not (jt_val (je_isi (T := "tuple") (by rfl) T.b_isinstance (je_ix (jv 0) je_int (fun _ _ => rfl)) (by rfl) T.b_tuple (by decide +kernel)))))))) (jss_one (js_ret je_bl)) jss_nil)
    (jss_cons (js_asg (jv 0) (jg_tup rfl (jgs_cons (jg_name (i := 1) sc_law_is_table.nd rfl (.inl rfl)) (jgs_cons (jg_name (i := 2) sc_law_is_table.nd rfl (.inl rfl)) jgs_nil))))
    (jss_cons (js_if (jt_w (jw_or (jt_not (jt_chain od_le od_le je_int (je_len (by rfl) T.b_len (jv 1)) je_int)) (jw_or1 (jt_cmp (od_ne hr.units) (je_new (jn_lc (own := [("one", 7)]) rfl sc_law_is_table.nd (ji_any (jv 1)) (blkOk_by (N := ["thing", "columns", "rows", "number", "row", "bad", "worth", "one"]) (sc := defScope (topS 37)) (by decide +kernel)) (fun _ _ _ _ _ => (jg_name (i := 7) sc_law_is_table.nd rfl (.inl rfl))) (fun _ _ _ _ _ => (jts_one (jt_not (jt_val (je_call (ok_law_is_name.mono (by decide)) hr (by rfl) (ja_cons (jv 7) ja_nil)))))) (fun _ _ _ _ _ => (jv 7)))) (je_new (jn_lst ja_nil)) (nomark _))))) (jss_one (js_ret je_bl)) jss_nil)
    (jss_cons (js_if (jt_w (jw_or (jt_not (jt_val (je_call (ok_law_rises.mono (by decide)) hr (by rfl) (ja_cons (jv 1) ja_nil)))) (jw_or1 (jt_not (jt_val (je_call (ok_law_are_pairs.mono (by decide)) hr (by rfl) (ja_cons (jv 2) (ja_cons je_int ja_nil)))))))) (jss_one (js_ret je_bl)) jss_nil)
    (jss_cons (js_for PassesOwn.never rfl (ji_any (jv 2)) (jg_tup rfl (jgs_cons (jg_name (i := 3) sc_law_is_table.nd rfl (.inl rfl)) (jgs_cons (jg_name (i := 4) sc_law_is_table.nd rfl (.inl rfl)) jgs_nil))) (jss_cons (js_if (jt_w (jw_or (jt_not (jt_val (je_call (ok_law_whole.mono (by decide)) hr (by rfl) (ja_cons (jv 3) ja_nil)))) (jw_or (jt_not (jt_chain od_le od_le je_int (jv 3) je_int)) (jw_or1 (jt_not (jt_val (je_isi (T := "tuple") (by rfl) T.b_isinstance (jv 4) (by rfl) T.b_tuple (by decide +kernel)))))))) (jss_one (js_ret je_bl)) jss_nil)
    (jss_cons (js_setLc (i := 5) (own := [("worth", 6)]) rfl rfl rfl sc_law_is_table.nd (ji_any (jv 4)) (blkOk_by (N := ["thing", "columns", "rows", "number", "row", "bad", "worth", "one"]) (sc := defScope (topS 37)) (by decide +kernel)) (fun _ _ _ _ _ => (jg_name (i := 6) sc_law_is_table.nd rfl (.inl rfl))) (fun _ _ _ _ _ => (jts_one (jt_w (jw_and (jt_cmp od_isnot (jv 6) je_non (nomark _)) (jw_and1 (jt_not (jt_val (je_call (ok_law_is_worth.mono (by decide)) hr (by rfl) (ja_cons (jv 6) ja_nil))))))))) (fun _ _ _ _ _ => (jv 6)) (sw_true rfl rfl rfl (by decide +kernel)))
    (jss_one (js_if (jt_w (jw_or (jt_cmp (od_ne hr.units) (je_len (by rfl) T.b_len (jv 4)) (je_len (by rfl) T.b_len (jv 1)) (nomark _)) (jw_or1 (jt_cmp (od_ne hr.units) (jv 5) (je_new (jn_lst ja_nil)) (nomark _))))) (jss_one (js_ret je_bl)) jss_nil)))))
    (jss_one (js_ret (je_call (ok_law_rises.mono (by decide)) hr (by rfl) (ja_cons (je_new (jn_lc (own := [("row", 4)]) rfl sc_law_is_table.nd (ji_any (jv 2)) (blkOk_by (N := ["thing", "columns", "rows", "number", "row", "bad", "worth", "one"]) (sc := defScope (topS 37)) (by decide +kernel)) (fun _ _ _ _ _ => (jg_name (i := 4) sc_law_is_table.nd rfl (.inl rfl))) (fun _ _ _ _ _ => jts_nil) (fun _ _ _ _ _ => (je_ix (jv 4) je_int (fun _ _ => rfl))))) ja_nil))))))))))
theorem sc_is_numbered_row : FnScope ["columns", "thing"] ["columns", "thing"] (defScope (topS 17)) := ⟨rfl, rfl, rfl, by decide +kernel, rfl, by decide +kernel, by decide +kernel⟩
theorem ok_is_numbered_row (T : Top K mg) (ok_is_pair : DefOk P w K mg base 1 "is_pair" (spP K 1 f_is_pair)) (ok_is_id : DefOk P w K mg base 2 "is_id" (spP K 1 f_is_id)) (ok_is_row : DefOk P w K mg base 3 "is_row" (spP K 2 f_is_row)) : DefOk P w K mg base 4 "is_numbered_row" (spP K 2 f_is_numbered_row) :=
  def_pure T.d_is_numbered_row sc_is_numbered_row (by decide) (fun _ _ _ _ _ _ us hl => match us, hl with | [_, _], _ => rfl) fun f cdv A outer s H E hr => (by unfold M_is_numbered_row; exact (jss_one (js_ret (je_and (je_call (ok_is_pair.mono (by decide)) hr (by rfl) (ja_cons (jv 1) ja_nil)) (je_and (je_call (ok_is_id.mono (by decide)) hr (by rfl) (ja_cons (je_ix (jv 1) je_int (fun _ _ => rfl)) ja_nil)) (je_one (je_call (ok_is_row.mono (by decide)) hr (by rfl) (ja_cons (jv 0) (ja_cons (je_ix (jv 1) je_int (fun _ _ => rfl)) ja_nil)))))))))
theorem sc_law_houses : FnScope ["deck", "most", "rows_most", "found", "name", "columns", "rows", "number", "one"] ["deck", "most", "rows_most"] (defScope (topS 32)) := ⟨rfl, rfl, rfl, by decide +kernel, rfl, by decide +kernel, by decide +kernel⟩
theorem ok_law_houses (T : Top K mg) (ok_law_pick : DefOk P w K mg base 1 "_law_pick" (spK K 2 f_law_pick)) (ok_law_worth : DefOk P w K mg base 3 "_law_worth" (spK K 1 f_law_worth)) : DefOk P w K mg base 4 "_law_houses" (spK K 3 f_law_houses) :=
  def_deck T.d_law_houses sc_law_houses (by decide) (fun _ _ _ _ _ _ us hl => match us, hl with | [_, _, _], _ => rfl) fun f cdv A outer s H E hr => (by unfold M_law_houses; exact (jss_cons (js_setOwn (i := 3) sc_law_houses.nd rfl (.inl rfl) (jn_lst ja_nil))
    (jss_cons (js_for PassesOwn.never rfl (ji_any (je_slice (je_new (jn_lst (ja_cons je_str (ja_cons je_str (ja_cons je_str (ja_cons je_str ja_nil)))))) jo_none (jo_some (je_bin od_add je_int (je_callK 0 (ok_law_pick.mono (by decide)) hr (by rfl) (ja_cons (jv 1) ja_nil)))))) (jg_name (i := 4) sc_law_houses.nd rfl (.inl rfl)) (jss_cons (js_set (i := 5) sc_law_houses.nd rfl (.inl rfl) (je_tuple (by rfl) T.b_tuple (je_new (jn_lc (own := [("one", 8)]) rfl sc_law_houses.nd (ji_any (je_new (jn_lst (ja_cons je_str (ja_cons je_str (ja_cons je_str (ja_cons je_str ja_nil))))))) (blkOk_by (N := ["deck", "most", "rows_most", "found", "name", "columns", "rows", "number", "one"]) (sc := defScope (topS 32)) (by decide +kernel)) (fun _ _ _ _ _ => (jg_name (i := 8) sc_law_houses.nd rfl (.inl rfl))) (fun _ _ _ _ _ => (jts_one (jt_cmp od_gt (je_callK 0 (ok_law_pick.mono (by decide)) hr (by rfl) (ja_cons je_int ja_nil)) je_int (nomark _)))) (fun _ _ _ _ _ => (jv 8))))))
    (jss_cons (js_set (i := 5) sc_law_houses.nd rfl (.inl rfl) (je_if (jt_cmp (od_ne hr.units) (jv 5) (je_tup ja_nil) (nomark _)) (jv 5) (je_tup (ja_cons je_str ja_nil))))
    (jss_cons (js_setOwn (i := 6) sc_law_houses.nd rfl (.inl rfl) (jn_lst ja_nil))
    (jss_cons (js_for PassesOwn.never rfl (ji_range1 (by rfl) T.b_range (je_callK 0 (ok_law_pick.mono (by decide)) hr (by rfl) (ja_cons (je_bin od_add (jv 2) je_int) ja_nil))) (jg_name (i := 7) sc_law_houses.nd rfl (.inl rfl)) (jss_one (js_expr (je_append 6 (je_tup (ja_cons (je_bin od_add (je_bin od_mul je_int (jv 7)) (je_callK 0 (ok_law_pick.mono (by decide)) hr (by rfl) (ja_cons je_int ja_nil))) (ja_cons (je_tuple (by rfl) T.b_tuple (je_new (jn_lc (own := [("one", 8)]) rfl sc_law_houses.nd (ji_any (jv 5)) (blkOk_by (N := ["deck", "most", "rows_most", "found", "name", "columns", "rows", "number", "one"]) (sc := defScope (topS 32)) (by decide +kernel)) (fun _ _ _ _ _ => (jg_name (i := 8) sc_law_houses.nd rfl (.inl rfl))) (fun _ _ _ _ _ => jts_nil) (fun _ _ _ _ _ => (je_callK 0 (ok_law_worth.mono (by decide)) hr (by rfl) ja_nil))))) ja_nil)))))))
    (jss_one (js_expr (je_append 3 (je_tup (ja_cons (jv 4) (ja_cons (je_tup (ja_cons (jv 5) (ja_cons (je_tuple (by rfl) T.b_tuple (jv 6)) ja_nil))) ja_nil)))))))))))
    (jss_one (js_ret (je_tuple (by rfl) T.b_tuple (jv 3)))))))
theorem sc_law_good : FnScope ["thing", "one"] ["thing"] (defScope (topS 38)) := ⟨rfl, rfl, rfl, by decide +kernel, rfl, by decide +kernel, by decide +kernel⟩
theorem ok_law_good (T : Top K mg) (ok_law_is_name : DefOk P w K mg base 1 "_law_is_name" (spP K 1 f_law_is_name)) (ok_law_rises : DefOk P w K mg base 1 "_law_rises" (spP K 1 f_law_rises)) (ok_law_are_pairs : DefOk P w K mg base 1 "_law_are_pairs" (spP K 2 f_law_are_pairs)) (ok_law_is_table : DefOk P w K mg base 3 "_law_is_table" (spP K 1 f_law_is_table)) : DefOk P w K mg base 4 "_law_good" (spP K 1 f_law_good) :=
  def_pure T.d_law_good sc_law_good (by decide) (fun _ _ _ _ _ _ us hl => match us, hl with | [_], _ => rfl) fun f cdv A outer s H E hr => (by unfold M_law_good; exact (jss_cons (js_if (jt_w (jw_or (jt_not (jt_val (je_call (ok_law_are_pairs.mono (by decide)) hr (by rfl) (ja_cons (jv 0) (ja_cons je_int ja_nil))))) (jw_or1 (jt_cmp (od_eq hr.units) (jv 0) (je_tup ja_nil) (nomark _))))) (jss_one (js_ret je_bl)) jss_nil)
    (jss_cons (js_if (jt_cmp (od_ne hr.units) (je_new (jn_lc (own := [("one", 1)]) rfl sc_law_good.nd (ji_any (jv 0)) (blkOk_by (N := ["thing", "one"]) (sc := defScope (topS 38)) (by decide +kernel)) (fun _ _ _ _ _ => (jg_name (i := 1) sc_law_good.nd rfl (.inl rfl))) (fun _ _ _ _ _ => (jts_one (jt_w (jw_or (jt_not (jt_val (je_call (ok_law_is_name.mono (by decide)) hr (by rfl) (ja_cons (je_ix (jv 1) je_int (fun _ _ => rfl)) ja_nil)))) (jw_or1 (jt_not (jt_val (je_call (ok_law_is_table.mono (by decide)) hr (by rfl) (ja_cons (je_ix (jv 1) je_int (fun _ _ => rfl)) ja_nil))))))))) (fun _ _ _ _ _ => (jv 1)))) (je_new (jn_lst ja_nil)) (nomark _)) (jss_one (js_ret je_bl)) jss_nil)
    (jss_one (js_ret (je_call (ok_law_rises.mono (by decide)) hr (by rfl) (ja_cons (je_new (jn_lc (own := [("one", 1)]) rfl sc_law_good.nd (ji_any (jv 0)) (blkOk_by (N := ["thing", "one"]) (sc := defScope (topS 38)) (by decide +kernel)) (fun _ _ _ _ _ => (jg_name (i := 1) sc_law_good.nd rfl (.inl rfl))) (fun _ _ _ _ _ => jts_nil) (fun _ _ _ _ _ => (je_ix (jv 1) je_int (fun _ _ => rfl))))) ja_nil)))))))
theorem sc_are_rows : FnScope ["columns", "thing", "pair", "number", "row"] ["columns", "thing"] (defScope (topS 18)) := ⟨rfl, rfl, rfl, by decide +kernel, rfl, by decide +kernel, by decide +kernel⟩
theorem ok_are_rows (T : Top K mg) (ok_is_tuple : DefOk P w K mg base 1 "is_tuple" (spP K 3 f_is_tuple)) (ok_rises : DefOk P w K mg base 1 "rises" (spP K 1 f_rises)) (ok_is_numbered_row : DefOk P w K mg base 4 "is_numbered_row" (spP K 2 f_is_numbered_row)) : DefOk P w K mg base 5 "are_rows" (spP K 2 f_are_rows) :=
  def_pure T.d_are_rows sc_are_rows (by decide) (fun _ _ _ _ _ _ us hl => match us, hl with | [_, _], _ => rfl) fun f cdv A outer s H E hr => (by unfold M_are_rows; exact (jss_cons (js_if (jt_not (jt_val (je_call (ok_is_tuple.mono (by decide)) hr (by rfl) (ja_cons (jv 1) (ja_cons je_int (ja_cons (je_gint (by rfl) T.c_MOST_ROWS.ex) ja_nil)))))) (jss_one (js_ret je_bl)) jss_nil)
    (jss_cons (js_if (jt_not (jt_val (je_all rfl (by rfl) T.b_all (je_new (jn_lc (own := [("pair", 2)]) rfl sc_are_rows.nd (ji_any (jv 1)) (blkOk_by (N := ["columns", "thing", "pair", "number", "row"]) (sc := defScope (topS 18)) (by decide +kernel)) (fun _ _ _ _ _ => (jg_name (i := 2) sc_are_rows.nd rfl (.inl rfl))) (fun _ _ _ _ _ => jts_nil) (fun _ _ _ _ _ => (je_call (ok_is_numbered_row.mono (by decide)) hr (by rfl) (ja_cons (jv 0) (ja_cons (jv 2) ja_nil))))))))) (jss_one (js_ret je_bl)) jss_nil)
    (jss_one (js_ret (je_call (ok_rises.mono (by decide)) hr (by rfl) (ja_cons (je_new (jn_lc (own := [("number", 3), ("row", 4)]) rfl sc_are_rows.nd (ji_any (jv 1)) (blkOk_by (N := ["columns", "thing", "pair", "number", "row"]) (sc := defScope (topS 18)) (by decide +kernel)) (fun _ _ _ _ _ => (jg_tup rfl (jgs_cons (jg_name (i := 3) sc_are_rows.nd rfl (.inl rfl)) (jgs_cons (jg_name (i := 4) sc_are_rows.nd rfl (.inl rfl)) jgs_nil)))) (fun _ _ _ _ _ => jts_nil) (fun _ _ _ _ _ => (jv 3)))) ja_nil)))))))
theorem sc_is_table : FnScope ["thing"] ["thing"] (defScope (topS 19)) := ⟨rfl, rfl, rfl, by decide +kernel, rfl, by decide +kernel, by decide +kernel⟩
theorem ok_is_table (T : Top K mg) (ok_is_pair : DefOk P w K mg base 1 "is_pair" (spP K 1 f_is_pair)) (ok_are_columns : DefOk P w K mg base 2 "are_columns" (spP K 1 f_are_columns)) (ok_are_rows : DefOk P w K mg base 5 "are_rows" (spP K 2 f_are_rows)) : DefOk P w K mg base 6 "is_table" (spP K 1 f_is_table) :=
  def_pure T.d_is_table sc_is_table (by decide) (fun _ _ _ _ _ _ us hl => match us, hl with | [_], _ => rfl) fun f cdv A outer s H E hr => (by unfold M_is_table; exact (jss_one (js_ret (je_and (je_call (ok_is_pair.mono (by decide)) hr (by rfl) (ja_cons (jv 0) ja_nil)) (je_and (je_call (ok_are_columns.mono (by decide)) hr (by rfl) (ja_cons (je_ix (jv 0) je_int (fun _ _ => rfl)) ja_nil)) (je_one (je_call (ok_are_rows.mono (by decide)) hr (by rfl) (ja_cons (je_ix (jv 0) je_int (fun _ _ => rfl)) (ja_cons (je_ix (jv 0) je_int (fun _ _ => rfl)) ja_nil)))))))))
theorem sc_is_house : FnScope ["thing"] ["thing"] (defScope (topS 20)) := ⟨rfl, rfl, rfl, by decide +kernel, rfl, by decide +kernel, by decide +kernel⟩
theorem ok_is_house (T : Top K mg) (ok_is_name : DefOk P w K mg base 1 "is_name" (spP K 1 f_is_name)) (ok_is_pair : DefOk P w K mg base 1 "is_pair" (spP K 1 f_is_pair)) (ok_is_table : DefOk P w K mg base 6 "is_table" (spP K 1 f_is_table)) : DefOk P w K mg base 7 "is_house" (spP K 1 f_is_house) :=
  def_pure T.d_is_house sc_is_house (by decide) (fun _ _ _ _ _ _ us hl => match us, hl with | [_], _ => rfl) fun f cdv A outer s H E hr => (by unfold M_is_house; exact (jss_one (js_ret (je_and (je_call (ok_is_pair.mono (by decide)) hr (by rfl) (ja_cons (jv 0) ja_nil)) (je_and (je_call (ok_is_name.mono (by decide)) hr (by rfl) (ja_cons (je_ix (jv 0) je_int (fun _ _ => rfl)) ja_nil)) (je_one (je_call (ok_is_table.mono (by decide)) hr (by rfl) (ja_cons (je_ix (jv 0) je_int (fun _ _ => rfl)) ja_nil))))))))
theorem sc_are_houses : FnScope ["thing", "pair", "name", "table"] ["thing"] (defScope (topS 21)) := ⟨rfl, rfl, rfl, by decide +kernel, rfl, by decide +kernel, by decide +kernel⟩
theorem ok_are_houses (T : Top K mg) (ok_is_tuple : DefOk P w K mg base 1 "is_tuple" (spP K 3 f_is_tuple)) (ok_rises : DefOk P w K mg base 1 "rises" (spP K 1 f_rises)) (ok_is_house : DefOk P w K mg base 7 "is_house" (spP K 1 f_is_house)) : DefOk P w K mg base 8 "are_houses" (spP K 1 f_are_houses) :=
  def_pure T.d_are_houses sc_are_houses (by decide) (fun _ _ _ _ _ _ us hl => match us, hl with | [_], _ => rfl) fun f cdv A outer s H E hr => (by unfold M_are_houses; exact (jss_cons (js_if (jt_not (jt_val (je_call (ok_is_tuple.mono (by decide)) hr (by rfl) (ja_cons (jv 0) (ja_cons je_int (ja_cons (je_gint (by rfl) T.c_MOST_HOUSES.ex) ja_nil)))))) (jss_one (js_ret je_bl)) jss_nil)
    (jss_cons (js_if (jt_not (jt_val (je_all rfl (by rfl) T.b_all (je_new (jn_lc (own := [("pair", 1)]) rfl sc_are_houses.nd (ji_any (jv 0)) (blkOk_by (N := ["thing", "pair", "name", "table"]) (sc := defScope (topS 21)) (by decide +kernel)) (fun _ _ _ _ _ => (jg_name (i := 1) sc_are_houses.nd rfl (.inl rfl))) (fun _ _ _ _ _ => jts_nil) (fun _ _ _ _ _ => (je_call (ok_is_house.mono (by decide)) hr (by rfl) (ja_cons (jv 1) ja_nil)))))))) (jss_one (js_ret je_bl)) jss_nil)
    (jss_one (js_ret (je_call (ok_rises.mono (by decide)) hr (by rfl) (ja_cons (je_new (jn_lc (own := [("name", 2), ("table", 3)]) rfl sc_are_houses.nd (ji_any (jv 0)) (blkOk_by (N := ["thing", "pair", "name", "table"]) (sc := defScope (topS 21)) (by decide +kernel)) (fun _ _ _ _ _ => (jg_tup rfl (jgs_cons (jg_name (i := 2) sc_are_houses.nd rfl (.inl rfl)) (jgs_cons (jg_name (i := 3) sc_are_houses.nd rfl (.inl rfl)) jgs_nil)))) (fun _ _ _ _ _ => jts_nil) (fun _ _ _ _ _ => (jv 2)))) ja_nil)))))))
theorem sc_law_same : FnScope ["told", "due", "k", "part"] ["told", "due"] (defScope (topS 28)) := ⟨rfl, rfl, rfl, by decide +kernel, rfl, by decide +kernel, by decide +kernel⟩
theorem okr_law_same (T : Top K mg) (ok_law_sort : DefOk P w K mg base 1 "_law_sort" (spP K 1 f_law_sort)) {k : Nat} {fr : Fp} (hk : 1 ≤ k) (okr : DefOk P w K mg base k "_law_same" (spP K 2 fr)) : DefOk P w K mg base (k + 1) "_law_same" (spP K 2 (runP 4 (M_law_same fr))) :=
  def_pure T.d_law_same sc_law_same (by decide) (fun _ _ _ _ _ _ us hl => match us, hl with | [_, _], _ => rfl) fun f cdv A outer s H E hr => (by unfold M_law_same; exact (jss_cons (js_if (jt_cmp (od_ne hr.units) (je_call (ok_law_sort.mono (by omega)) hr (by rfl) (ja_cons (jv 0) ja_nil)) (je_call (ok_law_sort.mono (by omega)) hr (by rfl) (ja_cons (jv 1) ja_nil)) (nomark _)) (jss_one (js_ret je_bl)) jss_nil)
    (jss_cons (js_if (jt_w (jw_and (jt_cmp od_gt (je_call (ok_law_sort.mono (by omega)) hr (by rfl) (ja_cons (jv 0) ja_nil)) je_int (nomark _)) (jw_and1 (jt_cmp od_lt (je_call (ok_law_sort.mono (by omega)) hr (by rfl) (ja_cons (jv 0) ja_nil)) je_int (nomark _))))) (jss_cons (js_if (jt_cmp (od_ne hr.units) (je_len (by rfl) T.b_len (jv 0)) (je_len (by rfl) T.b_len (jv 1)) (nomark _)) (jss_one (js_ret je_bl)) jss_nil)
    (jss_one (js_ret (je_cmp (od_eq hr.units) (je_new (jn_lc (own := [("k", 2), ("part", 3)]) rfl sc_law_same.nd (ji_enum (by rfl) T.b_enumerate (jv 0)) (blkOk_by (N := ["told", "due", "k", "part"]) (sc := defScope (topS 28)) (by decide +kernel)) (fun _ _ _ _ _ => (jg_tup rfl (jgs_cons (jg_name (i := 2) sc_law_same.nd rfl (.inl rfl)) (jgs_cons (jg_name (i := 3) sc_law_same.nd rfl (.inl rfl)) jgs_nil)))) (fun _ _ _ _ _ => (jts_one (jt_not (jt_val (je_call okr hr (by rfl) (ja_cons (jv 3) (ja_cons (je_ix (jv 1) (jv 2) (fun _ _ => rfl)) ja_nil))))))) (fun _ _ _ _ _ => (jv 2)))) (je_new (jn_lst ja_nil)) (nomark _))))) jss_nil)
    (jss_one (js_ret (je_cmp (od_eq hr.units) (jv 0) (jv 1) (nomark _)))))))
theorem okn_law_same (T : Top K mg) (ok_law_sort : DefOk P w K mg base 1 "_law_sort" (spP K 1 f_law_sort)) : ∀ n, DefOk P w K mg base (1 + n) "_law_same" (spP K 2 (f_law_same n))
  | 0 => def_noneP T.d_law_same (ps := ["told", "due"]) (fun _ _ _ _ _ _ us hl => match us, hl with | [_, _], _ => rfl)
  | n + 1 => okr_law_same T ok_law_sort (Nat.le_add_right _ _) (okn_law_same T ok_law_sort n)
theorem ok_law_same (T : Top K mg) (ok_law_sort : DefOk P w K mg base 1 "_law_sort" (spP K 1 f_law_sort)) : DefOk P w K mg base 21 "_law_same" (spP K 2 (f_law_same 20)) := okn_law_same T ok_law_sort 20
theorem sc_law_spoilt : FnScope ["deck", "thing", "rows", "at", "other"] ["deck", "thing"] (defScope (topS 30)) := ⟨rfl, rfl, rfl, by decide +kernel, rfl, by decide +kernel, by decide +kernel⟩
theorem okr_law_spoilt (T : Top K mg) (ok_law_pick : DefOk P w K mg base 1 "_law_pick" (spK K 2 f_law_pick)) {k : Nat} {fr : Fk} (hk : 1 ≤ k) (okr : DefOk P w K mg base k "_law_spoilt" (spK K 2 fr)) : DefOk P w K mg base (k + 1) "_law_spoilt" (spK K 2 (runK 5 (M_law_spoilt fr))) :=
  def_deck T.d_law_spoilt sc_law_spoilt (by decide) (fun _ _ _ _ _ _ us hl => match us, hl with | [_, _], _ => rfl) fun f cdv A outer s H E hr => (by unfold M_law_spoilt; exact (jss_cons (js_if (jt_w (jw_and (jt_val (je_isi2 (S := "tuple") (T := "list") (by rfl) T.b_isinstance (jv 1) (by rfl) T.b_tuple (by decide +kernel) (by rfl) T.b_list (by decide +kernel))) (jw_and (jt_cmp od_gt (je_len (by rfl) T.b_len (jv 1)) je_int (nomark _)) (jw_and1 (jt_cmp od_gt (je_callK 0 (ok_law_pick.mono (by omega)) hr (by rfl) (ja_cons je_int ja_nil)) je_int (nomark _)))))) (jss_cons (js_setOwn (i := 2) sc_law_spoilt.nd rfl (.inl rfl) (jn_list (by rfl) T.b_list (jv 1)))
    (jss_cons (js_set (i := 3) sc_law_spoilt.nd rfl (.inl rfl) (je_callK 0 (ok_law_pick.mono (by omega)) hr (by rfl) (ja_cons (je_lenOwn 2 (by rfl) T.b_len) ja_nil)))
    (jss_cons (js_setIx 2 (je_callK 0 okr hr (by rfl) (ja_cons (je_ixOwn 2 (jv 3) (fun _ _ => rfl)) ja_nil)) (jv 3))
    (jss_one (js_ret (je_if (jt_val (je_isi (T := "tuple") (by rfl) T.b_isinstance (jv 1) (by rfl) T.b_tuple (by decide +kernel))) (je_tuple (by rfl) T.b_tuple (jv 2)) (jv 2))))))) jss_nil)
    (jss_cons (js_if (jt_val (je_isi2 (S := "tuple") (T := "list") (by rfl) T.b_isinstance (jv 1) (by rfl) T.b_tuple (by decide +kernel) (by rfl) T.b_list (by decide +kernel))) (jss_cons (js_set (i := 4) sc_law_spoilt.nd rfl (.inl rfl) (je_if (jt_val (je_isi (T := "tuple") (by rfl) T.b_isinstance (jv 1) (by rfl) T.b_tuple (by decide +kernel))) (je_new (jn_list (by rfl) T.b_list (jv 1))) (je_tuple (by rfl) T.b_tuple (jv 1))))
    (jss_one (js_ret (je_ix (je_new (jn_lst (ja_cons (jv 4) (ja_cons (je_bin od_add (jv 1) (je_slice (jv 1) jo_none (jo_some je_int))) (ja_cons (je_slice (jv 1) (jo_some je_int) jo_none) (ja_cons (je_rev (jv 1)) (ja_cons je_non ja_nil))))))) (je_callK 0 (ok_law_pick.mono (by omega)) hr (by rfl) (ja_cons je_int ja_nil)) (fun _ _ => rfl))))) jss_nil)
    (jss_cons (js_if (jt_val (je_isi (T := "int") (by rfl) T.b_isinstance (jv 1) (by rfl) T.b_int (by decide +kernel))) (jss_one (js_ret (je_ix (je_new (jn_lst (ja_cons (je_bin od_add (jv 1) je_int) (ja_cons (je_bin od_sub (jv 1) je_int) (ja_cons je_bl (ja_cons je_non (ja_cons je_int (ja_cons (je_bin od_add (je_bin od_pow je_int je_int) je_int) (ja_cons (je_strI (by rfl) T.b_str (jv 1)) ja_nil))))))))) (je_callK 0 (ok_law_pick.mono (by omega)) hr (by rfl) (ja_cons je_int ja_nil)) (fun _ _ => rfl)))) jss_nil)
    (jss_one (js_ret (je_ix (je_new (jn_lst (ja_cons je_non (ja_cons je_int (ja_cons je_str (ja_cons je_str (ja_cons je_str (ja_cons je_str (ja_cons je_str (ja_cons je_str ja_nil)))))))))) (je_callK 0 (ok_law_pick.mono (by omega)) hr (by rfl) (ja_cons je_int ja_nil)) (fun _ _ => rfl))))))))
theorem okn_law_spoilt (T : Top K mg) (ok_law_pick : DefOk P w K mg base 1 "_law_pick" (spK K 2 f_law_pick)) : ∀ n, DefOk P w K mg base (1 + n) "_law_spoilt" (spK K 2 (f_law_spoilt n))
  | 0 => def_noneK T.d_law_spoilt (ps := ["deck", "thing"]) (fun _ _ _ _ _ _ us hl => match us, hl with | [_, _], _ => rfl)
  | n + 1 => okr_law_spoilt T ok_law_pick (Nat.le_add_right _ _) (okn_law_spoilt T ok_law_pick n)
theorem ok_law_spoilt (T : Top K mg) (ok_law_pick : DefOk P w K mg base 1 "_law_pick" (spK K 2 f_law_pick)) : DefOk P w K mg base 21 "_law_spoilt" (spK K 2 (f_law_spoilt 20)) := okn_law_spoilt T ok_law_pick 20
theorem sc_law : FnScope ["script", "cell_", "deck", "good", "bent", "some", "thing", "k"] ["script"] (defScope (topS 40)) := ⟨rfl, rfl, rfl, by decide +kernel, rfl, by decide +kernel, by decide +kernel⟩
theorem okF_law (T : Top K mg) (ok_law_deck : DefOk P w K mg base 1 "_law_deck" (spP K 2 f_law_deck)) (ok_law_written : DefOk P w K mg base 2 "_law_written" (spK K 1 f_law_written)) (ok_law_odd : DefOk P w K mg base 3 "_law_odd" (spK K 1 f_law_odd)) (ok_law_houses : DefOk P w K mg base 4 "_law_houses" (spK K 3 f_law_houses)) (ok_law_good : DefOk P w K mg base 4 "_law_good" (spP K 1 f_law_good)) (ok_are_houses : DefOk P w K mg base 8 "are_houses" (spP K 1 f_are_houses)) (ok_law_same : DefOk P w K mg base 21 "_law_same" (spP K 2 (f_law_same 20))) (ok_law_spoilt : DefOk P w K mg base 21 "_law_spoilt" (spK K 2 (f_law_spoilt 20))) {f : Addr} {fd : FuncData} (F : Fun K "law" "law" (topS 40) f fd) : FnOk P w K mg base CX0 22 f fd ["script"] (spP K 1 f_law) :=
  fn_pure F sc_law (by decide) fun cdv A outer s H E hr => (by unfold M_law; exact (jss_cons (js_for PassesOwn.never rfl (ji_any (je_slice (je_bin od_add (je_new (jn_lst (ja_cons je_int ja_nil))) (jv 0)) jo_none (jo_some je_int))) (jg_name (i := 1) sc_law.nd rfl (.inl rfl)) (jss_cons (js_setOwn (i := 2) sc_law.nd rfl (.inr rfl) (jn_call (ok_law_deck.mono (by decide)) hr (by rfl) (ja_cons (jv 1) (ja_cons je_int ja_nil))))
    (jss_cons (js_set (i := 3) sc_law.nd rfl (.inr rfl) (je_callK 2 (ok_law_houses.mono (by decide)) hr (by rfl) (ja_cons je_int (ja_cons je_int ja_nil))))
    (jss_cons (js_set (i := 4) sc_law.nd rfl (.inl rfl) (je_callK 2 (ok_law_spoilt.mono (by decide)) hr (by rfl) (ja_cons (jv 3) ja_nil)))
    (jss_cons (js_set (i := 5) sc_law.nd rfl (.inl rfl) (je_new (jn_lst (ja_cons (jv 3) (ja_cons (jv 4) (ja_cons (je_callK 2 (ok_law_spoilt.mono (by decide)) hr (by rfl) (ja_cons (jv 4) ja_nil)) (ja_cons (je_rev (jv 3)) (ja_cons (je_bin od_add (jv 3) (je_slice (jv 3) jo_none (jo_some je_int))) (ja_cons (je_new (jn_list (by rfl) T.b_list (jv 3))) (ja_cons (je_tup ja_nil) (ja_cons je_non (ja_cons (je_callK 2 (ok_law_odd.mono (by decide)) hr (by rfl) ja_nil) ja_nil))))))))))))
    (jss_one (js_for PassesOwn.never rfl (ji_any (je_bin od_add (je_bin od_add (jv 5) (je_new (jn_lc (own := [("k", 7)]) rfl sc_law.nd (ji_range1 (by rfl) T.b_range je_int) (blkOk_by (N := ["script", "cell_", "deck", "good", "bent", "some", "thing", "k"]) (sc := defScope (topS 40)) (by decide +kernel)) (fun _ _ _ _ _ => (jg_name (i := 7) sc_law.nd rfl (.inl rfl))) (fun _ _ _ _ _ => jts_nil) (fun _ _ _ _ _ => (je_callK 2 (ok_law_spoilt.mono (by decide)) hr (by rfl) (ja_cons (jv 3) ja_nil)))))) (je_callK 2 (ok_law_written.mono (by decide)) hr (by rfl) ja_nil))) (jg_name (i := 6) sc_law.nd rfl (.inl rfl)) (jss_one (js_if (jt_not (jt_val (je_call (ok_law_same.mono (by decide)) hr (by rfl) (ja_cons (je_call (ok_are_houses.mono (by decide)) hr (by rfl) (ja_cons (jv 6) ja_nil)) (ja_cons (je_call (ok_law_good.mono (by decide)) hr (by rfl) (ja_cons (jv 6) ja_nil)) ja_nil))))) (jss_one (js_ret je_bl)) jss_nil)))))))))
    (jss_one (js_ret je_bl))))
theorem law_ok (T : Top K mg) {f : Addr} {fd : FuncData} (F : Fun K "law" "law" (topS 40) f fd) : FnOk P w K mg base CX0 22 f fd ["script"] (spP K 1 f_law) := by
  have h_is_whole := ok_is_whole (P := P) (w := w) (base := base) T
  have h_is_name := ok_is_name (P := P) (w := w) (base := base) T
  have h_is_tuple := ok_is_tuple (P := P) (w := w) (base := base) T
  have h_is_pair := ok_is_pair (P := P) (w := w) (base := base) T
  have h_rises := ok_rises (P := P) (w := w) (base := base) T
  have h_law_deck := ok_law_deck (P := P) (w := w) (base := base) T
  have h_law_pick := ok_law_pick (P := P) (w := w) (base := base) T
  have h_law_whole := ok_law_whole (P := P) (w := w) (base := base) T
  have h_law_sort := ok_law_sort (P := P) (w := w) (base := base) T
  have h_law_is_name := ok_law_is_name (P := P) (w := w) (base := base) T
  have h_law_rises := ok_law_rises (P := P) (w := w) (base := base) T
  have h_law_are_pairs := ok_law_are_pairs (P := P) (w := w) (base := base) T
  have h_is_worth := ok_is_worth (P := P) (w := w) (base := base) T h_is_whole h_is_name
  have h_are_columns := ok_are_columns (P := P) (w := w) (base := base) T h_is_name h_is_tuple h_rises
  have h_is_id := ok_is_id (P := P) (w := w) (base := base) T h_is_whole
  have h_law_one := ok_law_one (P := P) (w := w) (base := base) T h_law_pick
  have h_law_is_worth := ok_law_is_worth (P := P) (w := w) (base := base) T h_law_whole h_law_is_name
  have h_law_written := ok_law_written (P := P) (w := w) (base := base) T h_law_pick
  have h_is_row := ok_is_row (P := P) (w := w) (base := base) T h_is_tuple h_is_worth
  have h_law_odd := ok_law_odd (P := P) (w := w) (base := base) T h_law_one
  have h_law_worth := ok_law_worth (P := P) (w := w) (base := base) T h_law_pick h_law_one
  have h_law_is_table := ok_law_is_table (P := P) (w := w) (base := base) T h_law_whole h_law_is_name h_law_rises h_law_are_pairs h_law_is_worth
  have h_is_numbered_row := ok_is_numbered_row (P := P) (w := w) (base := base) T h_is_pair h_is_id h_is_row
  have h_law_houses := ok_law_houses (P := P) (w := w) (base := base) T h_law_pick h_law_worth
  have h_law_good := ok_law_good (P := P) (w := w) (base := base) T h_law_is_name h_law_rises h_law_are_pairs h_law_is_table
  have h_are_rows := ok_are_rows (P := P) (w := w) (base := base) T h_is_tuple h_rises h_is_numbered_row
  have h_is_table := ok_is_table (P := P) (w := w) (base := base) T h_is_pair h_are_columns h_are_rows
  have h_is_house := ok_is_house (P := P) (w := w) (base := base) T h_is_name h_is_pair h_is_table
  have h_are_houses := ok_are_houses (P := P) (w := w) (base := base) T h_is_tuple h_rises h_is_house
  have h_law_same := ok_law_same (P := P) (w := w) (base := base) T h_law_sort
  have h_law_spoilt := ok_law_spoilt (P := P) (w := w) (base := base) T h_law_pick
  exact okF_law T h_law_deck h_law_written h_law_odd h_law_houses h_law_good h_are_houses h_law_same h_law_spoilt F
end
end PB

set_option maxHeartbeats 4000000
namespace PB
open PySem PySem.Spec PyProof.Rows L2
theorem def_mk {K : Frag} {mg : Str → Option Value} {h : Heap} {x : Str} {st : Stmt} {f : Addr} {oc : Value} {od an : Option Addr} {osl : Array (Option Value)} {kV doc pm cdv ct : Value} (X : K.In h) (G : h.Ns mainGlobals mg)
    (a : PySem.W.nsIn K mainGlobals x = some (some (.ref f))) (l : K.lookup f = some ⟨oc, od, .func (PySem.W.fnOf x x (defArgs st) (defBody st) (defScope st) .none kV doc pm an cdv ct), osl⟩)
    (c : PySem.W.codeIn K cdv x = true) (k : PySem.W.keepIn K (.ref f) = true) : DefAt K mg x st := ⟨⟨f, _, fun_mk l c k, PySem.W.mg_of X G a⟩⟩
theorem int_mk {K : Frag} {mg : Str → Option Value} {h : Heap} {x : Str} {i : Int} {t : Tok} (X : K.In h) (G : h.Ns mainGlobals mg) (a : PySem.W.nsIn K mainGlobals x = some (some (.int i t))) : IntAt mg x i := ⟨⟨t, PySem.W.mg_of X G a⟩⟩
def spLaw (K : Frag) : Sp := fun vs H Q _ => ∃ (a : Addr) (ns : List Int), vs = [.ref a] ∧ SqL K H a (ns.map V.int) ∧ ns.length ≤ 63 ∧ ∀ H', Q (.bl true) H'
theorem dpa_ints {K : Frag} {H : Hp} : ∀ ns : List Int, DpAll K H (ns.map V.int) (ns.map PyData.int)
  | [] => .nil
  | n :: r => .cons (.int n) (dpa_ints r)
theorem end_mk {l : PySem.W.OpenLaw} {w : World} {K : Frag} {h : Heap} {mg : Str → Option Value} {fa : Addr} (X : K.In h) (G : h.Ns mainGlobals mg) (hfa : mg "law" = some (.ref fa)) (T : Top K mg) :
    ∃ fd : FuncData, (∀ (s : Shared) (v : Value), BindsTo s fd ⟨[v], []⟩ [("script", v)]) ∧ ∀ base : Heap, K.In base → base.Ns mainGlobals mg → FnOk l.prog w K mg base CX0 60 fa fd ["script"] (spLaw K) := by
  obtain ⟨f, fd, F, g⟩ := T.d_law.ex
  have e := hfa.symm.trans g
  cases e
  have F' := F
  obtain ⟨oc, od, kV, doc, pm, an, cdv, ct, osl, rfl, lk, hcd⟩ := F'.ex
  refine ⟨_, fun s v => .of_eq rfl, fun base _ _ => ((law_ok T F).mono (by decide)).imp fun vs H Q E hsp => ?_⟩
  obtain ⟨a, ns, rfl, hS, hl, q⟩ := hsp
  have sm : Same H (cut H (fun _ => False)) := fun b o hb => cut_of (fun z => z) hb
  refine ⟨fun _ => False, [.list (ns.map .int)], _, fun _ z => z.elim, .cons (.lst (sm.seq hS) (dpa_ints ns)) .nil, rfl, law_true ns hl, fun v H' _ rr => ?_⟩
  have ev : v = .bl true := dp_bool rr
  rw [ev]
  exact q H'
end PB
open PySem PySem.W PyProof.Rows
set_option maxRecDepth 100000 in
set_option maxHeartbeats 0 in
theorem PySem.Challenge.cw_poolbook_k01_what_are_houses_holds : PySem.Challenge.rw_poolbook_k01_what_are_houses.Holds := by
  w_on; o_law; k_head; (case hw => w_witness2)
  k_fill
  refine L2.walk_of (l := PySem.Challenge.rw_poolbook_k01_what_are_houses) (n := 63) (k := 60) (x := "script") (CX := fun _ => L2.CX0) (sp := fun w => PB.spLaw _) rfl (by decide) rfl ⟨rfl, by decide, by decide⟩ (fun w h Y => PySem.W.kIn_of Y) ?F (fun _ _ a ns hl _ hS => ⟨a, ns, rfl, hS, hl, fun _ => rfl⟩) (fun _ _ _ _ _ h => h)
  case F =>
    intro w mg fa h KX G hmg
    refine PB.end_mk KX G hmg ?T
    constructor
    · refine' PB.def_mk KX G ?a ?l ?c ?k; (case a => k_is); (case l => k_is); (case c => k_is); (case k => k_is)
    · refine' PB.def_mk KX G ?a ?l ?c ?k; (case a => k_is); (case l => k_is); (case c => k_is); (case k => k_is)
    · refine' PB.def_mk KX G ?a ?l ?c ?k; (case a => k_is); (case l => k_is); (case c => k_is); (case k => k_is)
    · refine' PB.def_mk KX G ?a ?l ?c ?k; (case a => k_is); (case l => k_is); (case c => k_is); (case k => k_is)
    · refine' PB.def_mk KX G ?a ?l ?c ?k; (case a => k_is); (case l => k_is); (case c => k_is); (case k => k_is)
    · refine' PB.def_mk KX G ?a ?l ?c ?k; (case a => k_is); (case l => k_is); (case c => k_is); (case k => k_is)
    · refine' PB.def_mk KX G ?a ?l ?c ?k; (case a => k_is); (case l => k_is); (case c => k_is); (case k => k_is)
    · refine' PB.def_mk KX G ?a ?l ?c ?k; (case a => k_is); (case l => k_is); (case c => k_is); (case k => k_is)
    · refine' PB.def_mk KX G ?a ?l ?c ?k; (case a => k_is); (case l => k_is); (case c => k_is); (case k => k_is)
    · refine' PB.def_mk KX G ?a ?l ?c ?k; (case a => k_is); (case l => k_is); (case c => k_is); (case k => k_is)
    · refine' PB.def_mk KX G ?a ?l ?c ?k; (case a => k_is); (case l => k_is); (case c => k_is); (case k => k_is)
    · refine' PB.def_mk KX G ?a ?l ?c ?k; (case a => k_is); (case l => k_is); (case c => k_is); (case k => k_is)
    · refine' PB.def_mk KX G ?a ?l ?c ?k; (case a => k_is); (case l => k_is); (case c => k_is); (case k => k_is)
    · refine' PB.def_mk KX G ?a ?l ?c ?k; (case a => k_is); (case l => k_is); (case c => k_is); (case k => k_is)
    · refine' PB.def_mk KX G ?a ?l ?c ?k; (case a => k_is); (case l => k_is); (case c => k_is); (case k => k_is)
    · refine' PB.def_mk KX G ?a ?l ?c ?k; (case a => k_is); (case l => k_is); (case c => k_is); (case k => k_is)
    · refine' PB.def_mk KX G ?a ?l ?c ?k; (case a => k_is); (case l => k_is); (case c => k_is); (case k => k_is)
    · refine' PB.def_mk KX G ?a ?l ?c ?k; (case a => k_is); (case l => k_is); (case c => k_is); (case k => k_is)
    · refine' PB.def_mk KX G ?a ?l ?c ?k; (case a => k_is); (case l => k_is); (case c => k_is); (case k => k_is)
    · refine' PB.def_mk KX G ?a ?l ?c ?k; (case a => k_is); (case l => k_is); (case c => k_is); (case k => k_is)
    · refine' PB.def_mk KX G ?a ?l ?c ?k; (case a => k_is); (case l => k_is); (case c => k_is); (case k => k_is)
    · refine' PB.def_mk KX G ?a ?l ?c ?k; (case a => k_is); (case l => k_is); (case c => k_is); (case k => k_is)
    · refine' PB.def_mk KX G ?a ?l ?c ?k; (case a => k_is); (case l => k_is); (case c => k_is); (case k => k_is)
    · refine' PB.def_mk KX G ?a ?l ?c ?k; (case a => k_is); (case l => k_is); (case c => k_is); (case k => k_is)
    · refine' PB.def_mk KX G ?a ?l ?c ?k; (case a => k_is); (case l => k_is); (case c => k_is); (case k => k_is)
    · refine' PB.def_mk KX G ?a ?l ?c ?k; (case a => k_is); (case l => k_is); (case c => k_is); (case k => k_is)
    · refine' PB.def_mk KX G ?a ?l ?c ?k; (case a => k_is); (case l => k_is); (case c => k_is); (case k => k_is)
    · refine' PB.def_mk KX G ?a ?l ?c ?k; (case a => k_is); (case l => k_is); (case c => k_is); (case k => k_is)
    · refine' PB.def_mk KX G ?a ?l ?c ?k; (case a => k_is); (case l => k_is); (case c => k_is); (case k => k_is)
    · refine' PB.def_mk KX G ?a ?l ?c ?k; (case a => k_is); (case l => k_is); (case c => k_is); (case k => k_is)
    · refine' PB.def_mk KX G ?a ?l ?c ?k; (case a => k_is); (case l => k_is); (case c => k_is); (case k => k_is)
    · refine' PB.def_mk KX G ?a ?l ?c ?k; (case a => k_is); (case l => k_is); (case c => k_is); (case k => k_is)
    · refine' PB.int_mk KX G ?a; (case a => k_is)
    · refine' PB.int_mk KX G ?a; (case a => k_is)
    · refine' PB.int_mk KX G ?a; (case a => k_is)
    · refine' PB.int_mk KX G ?a; (case a => k_is)
    · refine' PB.int_mk KX G ?a; (case a => k_is)
    · refine' PB.int_mk KX G ?a; (case a => k_is)
    · exact PySem.W.mg_none_of KX G (by k_is)
    · exact PySem.W.mg_none_of KX G (by k_is)
    · exact PySem.W.mg_none_of KX G (by k_is)
    · exact PySem.W.mg_none_of KX G (by k_is)
    · exact PySem.W.mg_none_of KX G (by k_is)
    · exact PySem.W.mg_none_of KX G (by k_is)
    · exact PySem.W.mg_none_of KX G (by k_is)
    · exact PySem.W.mg_none_of KX G (by k_is)
    · exact PySem.W.mg_none_of KX G (by k_is)
    · exact PySem.W.mg_none_of KX G (by k_is)
    · exact PySem.W.mg_none_of KX G (by k_is)
