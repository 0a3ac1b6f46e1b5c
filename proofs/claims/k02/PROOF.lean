import PyProof.Rows.All
import Wide.All
import OpenK.AllK
import Wide.FinOn
import HandS.ForMost
import HandS.IsInst
import HandS.TupAny
import HandS.Deep
import HandS.Zip
import KE.KeyNested
import HandS.Lambda
import KE.LtData
import KE.KDictKeyed
import HandS.Style
import KE.KRevSl
import HandS.TupSets
import KE.SortData
import KE.DataCmp
import HandS.More
import HandS.ExcValue
import HandS.CallLocal
import KE.KDictPairs
import HandS.Exc
import KE.SortKeyHeap
import KE.LtSeq
import KE.DataEq
import HandS.DictComp
import HandS.SetKeys
import HandS.SetBool
import HandS.Flow
import KE.GoesEnum
import HandS.EndTab
import PySem.Challenge.RW_poolbook_k02_likes_and_kinds
set_option Elab.async false
set_option linter.all false
set_option maxRecDepth 100000
namespace PB
open PySem PySem.Spec PyProof.Rows L2
abbrev D := PyData
abbrev SS := L2.St
abbrev Nk := NestedKey
end PB

set_option maxHeartbeats 4000000
/-! Own layer: what an expression, a test, a statement of the program does to data, as a plain function; its soundness over the hand layer. -/
namespace PB
open PySem PySem.Spec PyProof.Rows L2

/-- the written part, the program, the world, the tables of code objects that lambdas fill -/
structure Frag where
  K : PySem.W.Frag
  P : Program
  w : World
  T : List (Addr × Str)
instance : CoeOut Frag PySem.W.Frag := ⟨Frag.K⟩
abbrev fg (K : PySem.W.Frag) (P : Program) (w : World) (tq : List (Addr × Str)) : Frag := ⟨K, P, w, tq⟩
abbrev _root_.L2.Cx.fg (X : Cx) (tq : List (Addr × Str)) : PB.Frag := ⟨X.K, X.prog, X.w, tq⟩
/-- what a slot is known to hold: data; a def of the module's, by its name; or a list of its own, that may be changed (par: it came as an argument) -/
inductive Sl where
  | val (d : D)
  | own (par : Bool) (ds : List D)
  | fn (x : Str)
abbrev Sg := List (Option Sl)

def Own (σ : SS) (e : Sg) (a : Addr) : Prop := ∃ (i : Nat) (b : Bool) (ds : List D), e[i]? = some (some (.own b ds)) ∧ σ[i]? = some (some (.ref a))
/-- a table of code objects -/
def isT : HO → Bool
  | .tbl _ => true
  | _ => false
open Classical in
noncomputable def cut (H : Hp) (F : Addr → Prop) : Hp := fun a => if F a then none else (H a).filter fun o => !isT o
theorem cut_mp {H : Hp} {F : Addr → Prop} {a : Addr} {o : HO} (h : cut H F a = some o) : ¬ F a ∧ H a = some o := by
  unfold cut at h
  split at h
  · cases h
  · rename_i z
    rw [Option.filter_eq_some_iff] at h
    exact ⟨z, h.1⟩
theorem cut_nt {H : Hp} {F : Addr → Prop} {a : Addr} {o : HO} (h : cut H F a = some o) : isT o = false := by
  unfold cut at h
  split at h
  · cases h
  · rw [Option.filter_eq_some_iff] at h
    simpa using h.2
theorem cut_of {H : Hp} {F : Addr → Prop} {a : Addr} {o : HO} (h1 : ¬ F a) (h2 : H a = some o) (nt : isT o = false := by first | rfl | assumption | exact cut_nt (by assumption)) : cut H F a = some o := by
  unfold cut
  rw [if_neg h1, Option.filter_eq_some_iff]
  exact ⟨h2, by simpa using nt⟩
/-- all but the tables stay -/
structure ExtT (H H' : Hp) : Prop where
  keep : ∀ a o, H a = some o → isT o = false → H' a = some o
  there : ∀ a, H' a = none → H a = none
theorem ExtT.of {H H' : Hp} (s : Same H H') : ExtT H H' := ⟨fun a o h _ => s a o h, fun a h => s.free h⟩
theorem ext_cuts {H H' : Hp} {F : Addr → Prop} (s : ExtT H H') : Same (cut H F) (cut H' F) := fun a o h => cut_of (cut_mp h).1 (s.keep a o (cut_mp h).2 (cut_nt h)) (cut_nt h)
theorem tabs_lst {T : List (Addr × Str)} {H : Hp} {p : Addr} {xs : List V} {o : HO} (t : LamX.Tabs T H) (h : H p = some (.lst xs)) : LamX.Tabs T (upd H p o) := fun q hq => by
  obtain ⟨ps, h1, h2, h3⟩ := t q hq
  have n1 : q.1 ≠ p := fun z => by rw [z, h] at h1; cases h1
  refine ⟨ps, by rw [upd_ne n1]; exact h1, h2, fun pos cv hc => ?_⟩
  obtain ⟨c, e1, e2⟩ := h3 pos cv hc
  have n2 : c ≠ p := fun z => by rw [z, h] at e2; unfold LamX.CodeO at e2; cases e2
  exact ⟨c, e1, by rw [upd_ne n2]; exact e2⟩
theorem same_cut {H : Hp} {F : Addr → Prop} : Same (cut H F) H := fun _ _ h => (cut_mp h).2
theorem same_cuts {H H' : Hp} {F : Addr → Prop} (s : Same H H') : Same (cut H F) (cut H' F) := fun a o h => cut_of (cut_mp h).1 (s a o (cut_mp h).2)

theorem same_tup {K : Frag} {H H' : Hp} {a : Addr} {xs : List V} (e : Same H H') (h : SqT K H a xs) : SqT K H' a xs := by
  rcases h with (h | ⟨o, h⟩) | h
  · exact .inl (.inl (e _ _ h))
  · exact .inl (.inr ⟨o, e _ _ h⟩)
  · exact .inr h
/-- a tuple, by its very object -/
def SqS (H : Hp) (a : Addr) (xs : List V) : Prop := ∃ o, H a = some (.frz o (.tup xs)) ∧ o.dict = none
theorem SqS.weak {K : PySem.W.Frag} {H : Hp} {a : Addr} {xs : List V} (h : SqS H a xs) : SqT K H a xs := by
  obtain ⟨o, h, _⟩ := h
  exact .inl (.inr ⟨o, h⟩)
theorem SqS.mono {H H' : Hp} {a : Addr} {xs : List V} (s : Same H H') (h : SqS H a xs) : SqS H' a xs := by
  obtain ⟨o, h, z⟩ := h
  exact ⟨o, s _ _ h, z⟩
def keyD : Key → D
  | .inl i => .int i
  | .inr x => .str x
/-- a dict whose keys are tuples, nested: its entries -/
def KvN : List (Nk × Addr × V) → List (Nk × Addr × Value) → Prop := Paired fun p q => p.1 = q.1 ∧ p.2.1 = q.2.1 ∧ RelV p.2.2 q.2.2
structure Dn0 (K : Frag) (h : Heap) (a : Addr) (kvs : List (Nk × Addr × V)) : Prop where
  len : kvs.length ≤ sizeLine
  low : (a == sysModules) = false
  ex : ∃ o es ep xs, KvN kvs xs ∧ h.get? a = some o ∧ o.ExactDict ∧ o.data = .dict es ep ∧ es.toList = xs.map (entryOfKey (nestedKind K.P K.w)) ∧ (xs.map (·.1)).Nodup
def DnO (K : Frag) (a : Addr) (kvs : List (Nk × Addr × V)) : HO := .ext fun h => Dn0 K h a kvs
mutual
/-- v is the data d: tuples by their very objects, dicts with keys of one kind -/
inductive Dp (K : Frag) (H : Hp) : V → D → Prop
  | non : Dp K H .non .none
  | bl (b : Bool) : Dp K H (.bl b) (.bool b)
  | int (i : Int) : Dp K H (.int i) (.int i)
  | str (x : Str) : Dp K H (.str x) (.str x)
  | lst {a : Addr} {xs : List V} {ds : List D} : SqL K.K H a xs → DpAll K H xs ds → Dp K H (.ref a) (.list ds)
  | tup {a : Addr} {xs : List V} {ds : List D} : SqS H a xs → DpAll K H xs ds → Dp K H (.ref a) (.tuple ds)
  | dk {a : Addr} {kvs : List (Key × V)} {ds : List (D × D)} : H a = some (.dK kvs) → DpK K H kvs ds → Dp K H (.ref a) (.dict ds)
  | dn {a : Addr} {kvs : List (Nk × Addr × V)} {ds : List (D × D)} : H a = some (DnO K a kvs) → DpN K H kvs ds → Dp K H (.ref a) (.dict ds)
inductive DpAll (K : Frag) (H : Hp) : List V → List D → Prop
  | nil : DpAll K H [] []
  | cons {v : V} {vs : List V} {d : D} {ds : List D} : Dp K H v d → DpAll K H vs ds → DpAll K H (v :: vs) (d :: ds)
inductive DpK (K : Frag) (H : Hp) : List (Key × V) → List (D × D) → Prop
  | nil : DpK K H [] []
  | cons {k : Key} {v : V} {kvs : List (Key × V)} {d : D} {ds : List (D × D)} : Dp K H v d → DpK K H kvs ds → DpK K H ((k, v) :: kvs) ((keyD k, d) :: ds)
inductive DpN (K : Frag) (H : Hp) : List (Nk × Addr × V) → List (D × D) → Prop
  | nil : DpN K H [] []
  | cons {k : Nk} {a : Addr} {v : V} {kvs : List (Nk × Addr × V)} {d : D} {ds : List (D × D)} : Dp K H (.ref a) k.data → k.depth ≤ 8 → Dp K H v d → DpN K H kvs ds → DpN K H ((k, a, v) :: kvs) ((k.data, d) :: ds)
end
mutual
theorem dp_mono {K : Frag} {H H' : Hp} (s : Same H H') : ∀ {v : V} {d : D}, Dp K H v d → Dp K H' v d
  | _, _, .non => .non
  | _, _, .bl b => .bl b
  | _, _, .int i => .int i
  | _, _, .str x => .str x
  | _, _, .lst h t => .lst (s.seq h) (dpa_mono s t)
  | _, _, .tup h t => .tup (h.mono s) (dpa_mono s t)
  | _, _, .dk h t => .dk (s _ _ h) (dpk_mono s t)
  | _, _, .dn h t => .dn (s _ _ h) (dpn_mono s t)
theorem dpa_mono {K : Frag} {H H' : Hp} (s : Same H H') : ∀ {v : List V} {d : List D}, DpAll K H v d → DpAll K H' v d
  | _, _, .nil => .nil
  | _, _, .cons h t => .cons (dp_mono s h) (dpa_mono s t)
theorem dpk_mono {K : Frag} {H H' : Hp} (s : Same H H') : ∀ {v : List (Key × V)} {d : List (D × D)}, DpK K H v d → DpK K H' v d
  | _, _, .nil => .nil
  | _, _, .cons h t => .cons (dp_mono s h) (dpk_mono s t)
theorem dpn_mono {K : Frag} {H H' : Hp} (s : Same H H') : ∀ {v : List (Nk × Addr × V)} {d : List (D × D)}, DpN K H v d → DpN K H' v d
  | _, _, .nil => .nil
  | _, _, .cons h1 z h t => .cons (dp_mono s h1) z (dp_mono s h) (dpn_mono s t)
end
/-! data without dicts, as the library sees it -/
mutual
def noDc : D → Bool
  | .dict _ => false
  | .list ds => noDcs ds
  | .tuple ds => noDcs ds
  | _ => true
def noDcs : List D → Bool
  | [] => true
  | d :: ds => noDc d && noDcs ds
end
mutual
theorem Dp.weak {K : Frag} {H : Hp} : ∀ {v : V} {d : D}, Dp K H v d → noDc d = true → L2.Dp K.K H v d
  | _, _, .non, _ => .non
  | _, _, .bl b, _ => .bl b
  | _, _, .int i, _ => .int i
  | _, _, .str x, _ => .str x
  | _, _, .lst h t, z => .lst h (DpAll.weak t (by rw [noDc] at z; exact z))
  | _, _, .tup h t, z => .tup h.weak (DpAll.weak t (by rw [noDc] at z; exact z))
  | _, _, .dk _ _, z => by rw [noDc] at z; cases z
  | _, _, .dn _ _, z => by rw [noDc] at z; cases z
theorem DpAll.weak {K : Frag} {H : Hp} : ∀ {v : List V} {d : List D}, DpAll K H v d → noDcs d = true → L2.DpAll K.K H v d
  | _, _, .nil, _ => .nil
  | _, _, .cons h t, z => by
    rw [noDcs, Bool.and_eq_true] at z
    exact .cons (Dp.weak h z.1) (DpAll.weak t z.2)
end
mutual
theorem noDc_lay : ∀ d : D, d.canLay0 = true → noDc d = true
  | .none, _ => by simp [noDc]
  | .bool _, _ => by simp [noDc]
  | .int _, _ => by simp [noDc]
  | .str _, _ => by simp [noDc]
  | .list xs, h => by rw [PyData.canLay0] at h; rw [noDc]; exact noDcs_lay xs h
  | .tuple xs, h => by rw [PyData.canLay0] at h; rw [noDc]; exact noDcs_lay xs h
  | .dict _, h => by rw [PyData.canLay0] at h; cases h
theorem noDcs_lay : ∀ ds : List D, PyData.canLayAll0 ds = true → noDcs ds = true
  | [], _ => by rw [noDcs]
  | x :: xs, h => by
    rw [PyData.canLayAll0, Bool.and_eq_true] at h
    rw [noDcs, noDc_lay x h.1, noDcs_lay xs h.2]
    rfl
end
theorem noDc_shaped {d : D} (h : SeqAt.shaped d = true) : noDc d = true := by
  refine noDc_lay d ?_
  unfold SeqAt.shaped at h
  simp only [Bool.and_eq_true] at h
  exact h.1
mutual
theorem noDc_alike : ∀ d : D, PySem.W.alike d d = true → noDc d = true
  | .none, _ => by simp [noDc]
  | .bool _, _ => by simp [noDc]
  | .int _, _ => by simp [noDc]
  | .str _, _ => by simp [noDc]
  | .list xs, h => by rw [PySem.W.alike] at h; rw [noDc]; exact noDcs_alike xs h
  | .tuple xs, h => by rw [PySem.W.alike] at h; rw [noDc]; exact noDcs_alike xs h
  | .dict _, h => by simp [PySem.W.alike] at h
theorem noDcs_alike : ∀ ds : List D, PySem.W.alikeAll ds ds = true → noDcs ds = true
  | [], _ => by rw [noDcs]
  | x :: xs, h => by
    rw [PySem.W.alikeAll, Bool.and_eq_true] at h
    rw [noDcs, noDc_alike x h.1, noDcs_alike xs h.2]
    rfl
end
theorem dpa_len {K : Frag} {H : Hp} : ∀ {v : List V} {d : List D}, DpAll K H v d → v.length = d.length
  | _, _, .nil => rfl
  | _, _, .cons _ t => by rw [List.length_cons, List.length_cons, dpa_len t]
theorem dpa_get {K : Frag} {H : Hp} : ∀ {v : List V} {d : List D} {i : Nat} {x : D}, DpAll K H v d → d[i]? = some x → ∃ u, v[i]? = some u ∧ Dp K H u x
  | _, _, _, _, .nil, h => by simp at h
  | _, _, 0, _, .cons h t, e => by
    simp only [List.length_cons, Nat.zero_lt_succ, getElem?_pos, List.getElem_cons_zero, Option.some.injEq] at e
    subst e
    exact ⟨_, rfl, h⟩
  | _, _, i + 1, _, .cons h t, e => by
    rw [List.getElem?_cons_succ] at e ⊢
    exact dpa_get t e
theorem dpa_get' {K : Frag} {H : Hp} : ∀ {v : List V} {d : List D} {i : Nat} {u : V}, DpAll K H v d → v[i]? = some u → ∃ x, d[i]? = some x ∧ Dp K H u x
  | _, _, _, _, .nil, h => by simp at h
  | _, _, 0, _, .cons h t, e => by
    simp only [List.length_cons, Nat.zero_lt_succ, getElem?_pos, List.getElem_cons_zero, Option.some.injEq] at e
    subst e
    exact ⟨_, rfl, h⟩
  | _, _, i + 1, _, .cons h t, e => by
    rw [List.getElem?_cons_succ] at e ⊢
    exact dpa_get' t e
theorem dpa_app {K : Frag} {H : Hp} : ∀ {v w : List V} {d f : List D}, DpAll K H v d → DpAll K H w f → DpAll K H (v ++ w) (d ++ f)
  | _, _, _, _, .nil, h => h
  | _, _, _, _, .cons h t, u => .cons h (dpa_app t u)
theorem dpa_drop {K : Frag} {H : Hp} : ∀ {v : List V} {d : List D} (n : Nat), DpAll K H v d → DpAll K H (v.drop n) (d.drop n)
  | _, _, 0, h => h
  | _, _, _ + 1, .nil => .nil
  | _, _, n + 1, .cons _ t => dpa_drop n t
theorem dpa_take {K : Frag} {H : Hp} : ∀ {v : List V} {d : List D} (n : Nat), DpAll K H v d → DpAll K H (v.take n) (d.take n)
  | _, _, 0, _ => .nil
  | _, _, _ + 1, .nil => .nil
  | _, _, n + 1, .cons h t => .cons h (dpa_take n t)
theorem dpa_set {K : Frag} {H : Hp} {u : V} {x : D} (hu : Dp K H u x) : ∀ {v : List V} {d : List D} (n : Nat), DpAll K H v d → DpAll K H (v.set n u) (d.set n x)
  | _, _, _, .nil => .nil
  | _, _, 0, .cons _ t => .cons hu t
  | _, _, n + 1, .cons h t => .cons h (dpa_set hu n t)
theorem dpa_rev {K : Frag} {H : Hp} : ∀ {v : List V} {d : List D}, DpAll K H v d → DpAll K H v.reverse d.reverse
  | _, _, .nil => .nil
  | _, _, .cons h t => by
    rw [List.reverse_cons, List.reverse_cons]
    exact dpa_app (dpa_rev t) (.cons h .nil)

/-- what may be seen as data -/
noncomputable def vis (G : Addr → Prop) (σ : SS) (e : Sg) (H : Hp) : Hp := cut H (fun a => G a ∨ Own σ e a)

structure Rel (K : Frag) (G : Addr → Prop) (σ : SS) (H : Hp) (e : Sg) : Prop where
  len : σ.length = e.length
  val : ∀ (i : Nat) (d : D), e[i]? = some (some (.val d)) → ∃ v, σ[i]? = some (some v) ∧ Dp K (vis G σ e H) v d
  own : ∀ (i : Nat) (b : Bool) (ds : List D), e[i]? = some (some (.own b ds)) → ∃ p xs, σ[i]? = some (some (.ref p)) ∧ H p = some (.lst xs) ∧ DpAll K (vis G σ e H) xs ds ∧ ¬ G p
  sep : ∀ (i j : Nat) (b c : Bool) (ds es : List D) (p : Addr), e[i]? = some (some (.own b ds)) → e[j]? = some (some (.own c es)) → σ[i]? = some (some (.ref p)) → σ[j]? = some (some (.ref p)) → i = j
  frn : ∀ a, G a → H a ≠ none
  tab : LamX.Tabs K.T H
  fnr : ∀ (i : Nat) (x : Str), e[i]? = some (some (.fn x)) → ∃ f, PySem.W.nsIn K mainGlobals x = some (some (.ref f)) ∧ σ[i]? = some (some (.ref f))

structure Step (σ : SS) (e : Sg) (H : Hp) (σ' : SS) (e' : Sg) (H' : Hp) : Prop where
  keep : ∀ a o, H a = some o → ¬ Own σ e a → isT o = false → H' a = some o
  new : ∀ a, Own σ' e' a → Own σ e a ∨ H a = none
  there : ∀ a, H' a = none → H a = none
  par : ∀ (i : Nat) (ds : List D), e[i]? = some (some (.own true ds)) → σ'[i]? = σ[i]? ∧ ∃ ds', e'[i]? = some (some (.own true ds'))

section
variable {K : Frag} {G : Addr → Prop} {σ σ' σ'' : SS} {H H' H'' : Hp} {e e' e'' : Sg}
theorem Step.refl : Step σ e H σ e H := ⟨fun _ _ h _ _ => h, fun _ h => .inl h, fun _ h => h, fun _ ds h => ⟨rfl, ds, h⟩⟩
theorem Step.trans (a : Step σ e H σ' e' H') (b : Step σ' e' H' σ'' e'' H'') : Step σ e H σ'' e'' H'' where
  keep := fun x o h n nt => b.keep x o (a.keep x o h n nt) (fun w => by
    rcases a.new x w with q | q
    · exact n q
    · rw [h] at q; cases q) nt
  new := fun x w => by
    rcases b.new x w with q | q
    · exact a.new x q
    · exact .inr (a.there x q)
  there := fun x h => a.there x (b.there x h)
  par := fun i ds h => by
    obtain ⟨h1, ds1, h2⟩ := a.par i ds h
    obtain ⟨h3, ds2, h4⟩ := b.par i ds1 h2
    exact ⟨h3.trans h1, ds2, h4⟩
theorem Step.vis (a : Step σ e H σ' e' H') : Same (vis G σ e H) (PB.vis G σ' e' H') := fun x o h => by
  obtain ⟨h1, h2⟩ := cut_mp h
  refine cut_of ?_ (a.keep x o h2 (fun w => h1 (.inr w)) (cut_nt h)) (cut_nt h)
  rintro (w | w)
  · exact h1 (.inl w)
  · rcases a.new x w with q | q
    · exact h1 (.inr q)
    · rw [h2] at q; cases q
theorem Step.grow (s : Same H H') : Step σ e H σ e H' := ⟨fun a o h _ _ => s a o h, fun _ h => .inl h, fun a h => s.free h, fun _ ds h => ⟨rfl, ds, h⟩⟩
theorem Step.growT (s : ExtT H H') : Step σ e H σ e H' := ⟨fun a o h _ nt => s.keep a o h nt, fun _ h => .inl h, s.there, fun _ ds h => ⟨rfl, ds, h⟩⟩
theorem Rel.growT (r : Rel K G σ H e) (s : ExtT H H') (t : LamX.Tabs K.T H') : Rel K G σ H' e where
  len := r.len
  val := fun i d h => by
    obtain ⟨v, h1, h2⟩ := r.val i d h
    exact ⟨v, h1, dp_mono (ext_cuts s) h2⟩
  own := fun i b ds h => by
    obtain ⟨p, xs, h1, h2, h3, h4⟩ := r.own i b ds h
    exact ⟨p, xs, h1, s.keep _ _ h2 rfl, dpa_mono (ext_cuts s) h3, h4⟩
  sep := r.sep
  frn := fun a h q => r.frn a h (s.there a q)
  tab := t
  fnr := r.fnr
theorem Rel.grow (r : Rel K G σ H e) (s : Same H H') : Rel K G σ H' e where
  len := r.len
  val := fun i d h => by
    obtain ⟨v, h1, h2⟩ := r.val i d h
    exact ⟨v, h1, dp_mono (same_cuts s) h2⟩
  own := fun i b ds h => by
    obtain ⟨p, xs, h1, h2, h3, h4⟩ := r.own i b ds h
    exact ⟨p, xs, h1, s _ _ h2, dpa_mono (same_cuts s) h3, h4⟩
  sep := r.sep
  frn := fun a h q => r.frn a h (s.free q)
  tab := r.tab.ext s
  fnr := r.fnr
theorem Rel.ne0 (r : Rel K G σ H e) : ∀ a, (G a ∨ Own σ e a) → H a ≠ none := by
  rintro a (h | ⟨i, b, ds, h1, h2⟩)
  · exact r.frn a h
  · obtain ⟨p, xs, q1, q2, _⟩ := r.own i b ds h1
    rw [h2] at q1
    cases q1
    rw [q2]
    exact fun z => nomatch z
theorem same_vis : Same (PB.vis G σ e H) H := same_cut
/-- a new object is seen -/
theorem Rel.vis_new (r : Rel K G σ H e) {p : Addr} {o : HO} (nt : isT o = false) (hp : H p = none) : PB.vis G σ e (upd H p o) p = some o :=
  cut_of (fun w => r.ne0 p w hp) upd_same
theorem same_new {H : Hp} {p : Addr} {o : HO} (h : H p = none) : Same H (upd H p o) := fun b x e => by
  rw [upd_ne (ne_of_none e h)]
  exact e
end

/-! ### readings -/
abbrev ME := Sg → Option (D × Sg)
abbrev MT := Sg → Option (Bool × Sg)
abbrev ML := Sg → Option (List D × Sg)
/-- what a def hands back: data, or a new list that nobody else holds -/
inductive Rt where
  | val (d : D)
  | new (ds : List D)
inductive Out where
  | next | brk | cont | ret (r : Rt)
abbrev MS := Sg → Option (Out × Sg)

def RtRel (K : Frag) (F : Addr → Prop) (H H' : Hp) (v : V) : Rt → Prop
  | .val d => Dp K (cut H' F) v d
  | .new ds => ∃ p xs, v = .ref p ∧ H p = none ∧ H' p = some (.lst xs) ∧ DpAll K (cut H' (fun a => F a ∨ a = p)) xs ds

def tOf (K : Frag) (m : ME) : TE := fun σ H Q => ∃ G e d e', Rel K G σ H e ∧ m e = some (d, e') ∧ ∀ v H', Step σ e H σ e' H' → Rel K G σ H' e' → Dp K (vis G σ e' H') v d → Q v H'
def tTOf (K : Frag) (m : MT) : TT := fun σ H Q => ∃ G e b e', Rel K G σ H e ∧ m e = some (b, e') ∧ ∀ H', Step σ e H σ e' H' → Rel K G σ H' e' → Q b H'
/-- arguments, all of them data -/
def tAOf (K : Frag) (m : ML) : TA := fun σ H Q => ∃ G e ds e', Rel K G σ H e ∧ m e = some (ds, e') ∧ ∀ vs H', Step σ e H σ e' H' → Rel K G σ H' e' → DpAll K (vis G σ e' H') vs ds → Q vs H'
/-- a new list -/
def tNOf (K : Frag) (m : ML) : TE := fun σ H Q => ∃ G e ds e', Rel K G σ H e ∧ m e = some (ds, e') ∧ ∀ p xs H', Step σ e H σ e' H' → Rel K (fun a => G a ∨ a = p) σ H' e' → H p = none → H' p = some (.lst xs) →
  DpAll K (vis (fun a => G a ∨ a = p) σ e' H') xs ds → Q (.ref p) H'
def outs (K : Frag) (G : Addr → Prop) (σ : SS) (e : Sg) (H : Hp) (D : Ends) (o : Out) (e' : Sg) : Prop := match o with
  | .next => ∀ σ' H', Step σ e H σ' e' H' → Rel K G σ' H' e' → D.nx σ' H'
  | .brk => ∀ σ' H', Step σ e H σ' e' H' → Rel K G σ' H' e' → D.bk σ' H'
  | .cont => ∀ σ' H', Step σ e H σ' e' H' → Rel K G σ' H' e' → D.ct σ' H'
  | .ret r => ∀ v σ' H', Step σ e H σ' e' H' → Rel K G σ' H' e' → RtRel K (fun a => G a ∨ Own σ' e' a) H H' v r → D.rt v H'
def tSOf (K : Frag) (m : MS) : TS := fun D σ H => ∃ G e o e', Rel K G σ H e ∧ m e = some (o, e') ∧ outs K G σ e H D o e'

theorem PE.imp {X : Cx} {e : Expr} {t t' : TE} (h : PE X e t) (i : ∀ σ H Q, t' σ H Q → t σ H Q) : PE X e t' := ⟨fun pins s σ H Q I w => h.run pins s σ H Q I (i σ H Q w)⟩
theorem PT.imp {X : Cx} {e : Expr} {t t' : TT} (h : PT X e t) (i : ∀ σ H Q, t' σ H Q → t σ H Q) : PT X e t' := ⟨fun pins s σ H Q I w => h.run pins s σ H Q I (i σ H Q w)⟩
theorem PW.imp {X : Cx} {e : Expr} {t t' : TT} (h : PW X e t) (i : ∀ σ H Q, t' σ H Q → t σ H Q) : PW X e t' := ⟨fun wh pins s σ H Q I w => h.run wh pins s σ H Q I (i σ H Q w)⟩
theorem PA.imp {X : Cx} {e : List Expr} {t t' : TA} (h : PA X e t) (i : ∀ σ H Q, t' σ H Q → t σ H Q) : PA X e t' := ⟨fun pos pins s σ H Q I w => h.run pos pins s σ H Q I (i σ H Q w)⟩
theorem PS.imp {X : Cx} {e : Stmt} {t t' : TS} (h : PS X e t) (i : ∀ D σ H, t' D σ H → t D σ H) : PS X e t' := ⟨fun pins s σ H D I w => h.run pins s σ H D I (i D σ H w)⟩
theorem PSs.imp {X : Cx} {e : List Stmt} {t t' : TS} (h : PSs X e t) (i : ∀ D σ H, t' D σ H → t D σ H) : PSs X e t' := ⟨fun pins s σ H D I w => h.run pins s σ H D I (i D σ H w)⟩
theorem PI.imp {X : Cx} {tg e : Expr} {t t' : TI} (h : PI X tg e t) (i : ∀ σ H Q, t' σ H Q → t σ H Q) : PI X tg e t' := ⟨fun pins s σ H Q I w => h.run pins s σ H Q I (i σ H Q w)⟩
theorem PG.imp {X : Cx} {tg : Expr} {t t' : TG} (h : PG X tg t) (i : ∀ v σ H Q, t' v σ H Q → t v σ H Q) : PG X tg t' := ⟨fun pins s σ H v u Q I r w => h.run pins s σ H v u Q I r (i v σ H Q w)⟩
section
variable {K : Frag} {G : Addr → Prop} {σ : SS} {H : Hp} {e : Sg}
theorem vis_foreign {Dl : Addr} {o : HO} (hD : H Dl = none) : Same (vis G σ e H) (vis (fun a => G a ∨ a = Dl) σ e (upd H Dl o)) := fun a u h => by
  obtain ⟨h1, h2⟩ := cut_mp h
  have hne : a ≠ Dl := ne_of_none h2 hD
  refine cut_of ?_ (by rw [upd_ne hne]; exact h2)
  rintro ((w | w) | w)
  · exact h1 (.inl w)
  · exact hne w
  · exact h1 (.inr w)
/-- one more object that is none of ours -/
theorem Rel.foreign {Dl : Addr} {o : HO} (r : Rel K G σ H e) (hD : H Dl = none) : Rel K (fun a => G a ∨ a = Dl) σ (upd H Dl o) e := by
  have sm : Same (vis G σ e H) (vis (fun a => G a ∨ a = Dl) σ e (upd H Dl o)) := fun a u h => by
    obtain ⟨h1, h2⟩ := cut_mp h
    have hne : a ≠ Dl := ne_of_none h2 hD
    refine cut_of ?_ (by rw [upd_ne hne]; exact h2)
    rintro ((w | w) | w)
    · exact h1 (.inl w)
    · exact hne w
    · exact h1 (.inr w)
  refine ⟨r.len, fun i d h => ?_, fun i b ds h => ?_, r.sep, fun a h => ?_, r.tab.ext (same_new hD), r.fnr⟩
  · obtain ⟨v, h1, h2⟩ := r.val i d h
    exact ⟨v, h1, dp_mono sm h2⟩
  · obtain ⟨p, xs, h1, h2, h3, h4⟩ := r.own i b ds h
    have hne : p ≠ Dl := ne_of_none h2 hD
    exact ⟨p, xs, h1, by rw [upd_ne hne]; exact h2, dpa_mono sm h3, fun w => w.elim h4 hne⟩
  · rcases h with h | h
    · have := r.frn a h
      have hne : a ≠ Dl := fun q => this (by rw [q]; exact hD)
      rw [upd_ne hne]
      exact this
    · rw [h, upd_same]
      exact fun z => nomatch z
theorem vis_tame {Dl : Addr} : Same (vis (fun a => G a ∨ a = Dl) σ e H) (vis G σ e H) := fun a u h => by
  obtain ⟨h1, h2⟩ := cut_mp h
  refine cut_of ?_ h2
  rintro (w | w)
  · exact h1 (.inl (.inl w))
  · exact h1 (.inr w)
theorem Rel.tame {Dl : Addr} (r : Rel K (fun a => G a ∨ a = Dl) σ H e) : Rel K G σ H e := by
  refine ⟨r.len, fun i d h => ?_, fun i b ds h => ?_, r.sep, fun a h => r.frn a (.inl h), r.tab, r.fnr⟩
  · obtain ⟨v, h1, h2⟩ := r.val i d h
    exact ⟨v, h1, dp_mono vis_tame h2⟩
  · obtain ⟨p, xs, h1, h2, h3, h4⟩ := r.own i b ds h
    exact ⟨p, xs, h1, h2, dpa_mono vis_tame h3, fun w => h4 (.inl w)⟩
theorem Rel.notOwn {Dl : Addr} (r : Rel K (fun a => G a ∨ a = Dl) σ H e) : ¬ Own σ e Dl := by
  rintro ⟨j, b, ds', q1, q2⟩
  obtain ⟨p, xs, q3, q4, q5, q6⟩ := r.own j b ds' q1
  rw [q2] at q3
  cases q3
  exact q6 (.inr rfl)
end
theorem rdp {X : Cx} {pins : List (Addr × Obj)} {σ : SS} {H : Hp} {s : Shared} {v : V} {d : D} {u : Value} (I : Inv X pins σ H s) (h : Dp (X.fg tq) H v d) (hn : noDc d = true) (r : RelV v u) : ∃ as, Reads s.heap u d as := L2.Dp.reads I d v u (h.weak hn) r
mutual
theorem noDc_nk : ∀ k : Nk, noDc k.data = true
  | .none => by simp [NestedKey.data, noDc]
  | .num _ => by simp [NestedKey.data, noDc]
  | .text _ => by simp [NestedKey.data, noDc]
  | .tup ks => by rw [NestedKey.data, noDc]; exact noDcs_nk ks
theorem noDcs_nk : ∀ ks : List Nk, noDcs (NestedKey.datas ks) = true
  | [] => by rw [NestedKey.datas, noDcs]
  | k :: ks => by rw [NestedKey.datas, noDcs, noDc_nk k, noDcs_nk ks]; rfl
end
end PB

set_option maxHeartbeats 4000000
namespace PB
open PySem PySem.Spec PyProof.Rows L2

/-! ### a new tuple, by its very object -/
section
variable {X : Cx} {pins : List (Addr × Obj)} {σ : SS} {H : Hp} {s : Shared}
def tobj (us : List Value) : Obj := { cls := .type "tuple", data := .seq us.toArray }
theorem newT {xs : List V} {us : List Value} {Q : VK} (I : Inv X pins σ H s) (r : Vals xs us) (hz : xs.length ≤ sizeLine) (q : ∀ p o, H p = none → o.dict = none → Q (.ref p) (upd H p (.frz o (.tup xs)))) :
    EP X pins σ Q (.ref s.heap.objs.size) { s with heap := s.heap.push (tobj us) } := by
  have hp : (s.heap.push (tobj us)).get? s.heap.objs.size = some (tobj us) := Heap.get?_push_size _ rfl
  exact ⟨.ref _, _, I.laid (t' := s.toks) (o := .frz (tobj us) (.tup xs)) (fun b u e => Heap.get?_push_of_some _ e) (Nat.le_refl _) ⟨hp, hz, us, r, _, hp, rfl, _, rfl⟩, rfl, q _ _ (I.hok.fresh (Nat.le_refl _)) rfl⟩
/-- (a, b, ..) -/
def tTupS (t : TA) : TE := fun σ H Q => t σ H fun xs H1 => xs.length ≤ sizeLine ∧ ∀ p o, H1 p = none → o.dict = none → Q (.ref p) (upd H1 p (.frz o (.tup xs)))
theorem pe_tupS {es : List Expr} {t : TA} {n : Nat} {pos : Pos} (h : PA X es t) : PE X (.Tuple es n pos) (tTupS t) :=
  ⟨fun pins s σ H Q I hq => wpAny_Tuple_spliced (thn (h.run pos pins s σ H _ I hq) fun us s1 ⟨xs, H1, I1, r, z, q⟩ => ⟨by rw [← r.length]; exact z, newT I1 r z q⟩)⟩
/-- tuple(x) -/
def rTupS (K : PySem.W.Frag) : List V → Hp → VK → Prop := fun xs H Q => ∃ p ys, xs = [.ref p] ∧ ((SqL K H p ys ∧ ∀ l o, H l = none → o.dict = none → Q (.ref l) (upd H l (.frz o (.tup ys)))) ∨ (SqT K H p ys ∧ Q (.ref p) H))
theorem cr_tupS : CallR X (.type "tuple") (rTupS X.K) := fun pins s σ H xs us Q I r h => by
  obtain ⟨p, ys, e, h⟩ := h
  rcases h with ⟨hq, q⟩ | ⟨hq, q⟩
  · rw [e] at r
    rw [Vals.ref1 r]
    obtain ⟨uv1, rv, pl, hz⟩ := I.list hq
    have hl := rv.length
    exact call_tuple_list pl.isList (fun h' kp => newT (s := { s with heap := h' }) (I.kept (t' := s.toks) kp) rv hz q) (by rw [List.size_toArray]; omega)
  · exact call_tuple_of pins s σ H xs us Q I r ⟨p, ys, e, .inr ⟨hq, q⟩⟩
/-- t + u -/
def rCatS (K : PySem.W.Frag) : R2 := fun x y H Q => ∃ a b xs ys, x = .ref a ∧ y = .ref b ∧ SqT K H a xs ∧ SqT K H b ys ∧ xs.length + ys.length ≤ sizeLine ∧ (xs = [] → Q (.ref b) H) ∧ (ys = [] → Q (.ref a) H) ∧
  ∀ p o, H p = none → o.dict = none → Q (.ref p) (upd H p (.frz o (.tup (xs ++ ys))))
theorem op_catS : OpR X (binaryOp .Add) (rCatS X.K) := fun pins s σ H x y v u Q I rx ry h => by
  obtain ⟨a, b, xs, ys, e1, e2, ha, hb, hz, q0, q1, q2⟩ := h
  by_cases hx : xs = []
  · exact op_catA pins s σ H x y v u Q I rx ry ⟨a, b, xs, ys, e1, e2, ha, hb, hz, q0, fun z => absurd hx z, fun z => absurd hx z⟩
  · subst e1 e2
    cases rx
    cases ry
    obtain ⟨uv1, r1, p1, _⟩ := I.tuple ha
    obtain ⟨uv2, r2, p2, _⟩ := I.tuple hb
    have hl : xs.length + ys.length = uv1.length + uv2.length := by rw [r1.length, r2.length]
    exact HT.cat_tup p1 p2 (fun z => hx (r1.nil_iff.mp z)) (fun z => ⟨.ref a, H, I, rfl, q1 (r2.nil_iff.mp z)⟩) (fun _ => newT I (r1.append r2) (by rw [List.length_append]; exact hz) q2) (by omega)
/-- t[lo:hi] -/
def rSlS (K : PySem.W.Frag) : V → Option Int → Option Int → Hp → VK → Prop := fun x lo hi H Q => ∃ a xs, x = .ref a ∧ SqT K H a xs ∧
  (HT.sIx xs.length 0 lo = 0 ∧ HT.sIx xs.length xs.length hi = xs.length → Q (.ref a) H) ∧ ∀ p o, H p = none → o.dict = none → Q (.ref p) (upd H p (.frz o (.tup (cutV xs lo hi))))
theorem sl_tupS : SlR X (rSlS X.K) := fun pins s σ H x v vl vu lo hi sl Q I rx hs pl pu h => by
  obtain ⟨a, xs, e, hx, q1, q2⟩ := h
  by_cases all_of : HT.sIx xs.length 0 lo = 0 ∧ HT.sIx xs.length xs.length hi = xs.length
  · exact sl_tupA pins s σ H x v vl vu lo hi sl Q I rx hs pl pu ⟨a, xs, e, hx, fun _ => q1 all_of, fun z => absurd all_of z⟩
  · subst e
    cases rx
    obtain ⟨uv1, r, ht, hz⟩ := I.tuple hx
    have sizes : uv1.toArray.size = xs.length := by rw [List.size_toArray]; exact r.length.symm
    refine ⟨"tuple", _, PyProof.Rows.slot_tuple_getitem.lookup, ht.typeIs, HT.getItem_tuple_cut ht hs pl pu (by rw [sizes]; exact all_of) ?_ (by rw [sizes]; exact hz)⟩
    rw [sizes]
    exact newT I ((r.drop (HT.sIx xs.length 0 lo)).take (HT.sIx xs.length xs.length hi - HT.sIx xs.length 0 lo)) (Nat.le_trans (cutV_length xs lo hi) hz) q2
end
/-! ### names, constants -/
def mC (d : D) : ME := fun e => some (d, e)
def mVar (i : Nat) : ME := fun e => match e[i]? with
  | some (some (.val d)) => some (d, e)
  | some (some (.own false ds)) => some (.list ds, e.set i (some (.val (.list ds))))
  | _ => none
section
variable {K : Frag} {G : Addr → Prop} {σ : SS} {H : Hp} {e : Sg} {X : Cx}
theorem c_of {d : D} {v : V} (hv : ∀ H, Dp K H v d) : ∀ σ H Q, tOf K (mC d) σ H Q → tC v σ H Q := by
  rintro σ H Q ⟨G, e, d', e', rel, hm, k⟩
  cases hm
  exact k _ _ .refl rel (hv _)
theorem je_int {i : Int} {j : Nat} {pos : Pos} : PE X (.Constant (.int i) j pos) (tOf (X.fg tq) (mC (.int i))) := PE.imp pe_int (c_of fun _ => .int i)
theorem je_bl {b : Bool} {j : Nat} {pos : Pos} : PE X (.Constant (.bool b) j pos) (tOf (X.fg tq) (mC (.bool b))) := PE.imp pe_bl (c_of fun _ => .bl b)
theorem je_non {j : Nat} {pos : Pos} : PE X (.Constant .none j pos) (tOf (X.fg tq) (mC .none)) := PE.imp pe_non (c_of fun _ => .non)
theorem je_str {x : Str} {j : Nat} {pos : Pos} : PE X (.Constant (.str x) j pos) (tOf (X.fg tq) (mC (.str x))) := PE.imp pe_str (c_of fun _ => .str x)
theorem je_gint {x : Str} {i : Int} {pos : Pos} (hg : Gl X x) (hm : ∃ t, X.mg x = some (.int i t)) (hd : (x == ("__debug__" : Str)) = false := by decide) : PE X (.Name x pos) (tOf (X.fg tq) (mC (.int i))) := by
  obtain ⟨t, hm⟩ := hm
  exact PE.imp (pe_glob (v := .int i) hg hm ⟨t, rfl⟩ hd) (c_of fun _ => .int i)

theorem own_set_val {i : Nat} {d : D} {a : Addr} (h : Own σ (e.set i (some (.val d))) a) : Own σ e a ∧ σ[i]? ≠ some (some (.ref a)) ∨ Own σ e a := by
  obtain ⟨j, b, ds, h1, h2⟩ := h
  rw [List.getElem?_set] at h1
  split at h1
  · split at h1 <;> simp at h1
  · exact .inr ⟨j, b, ds, h1, h2⟩
theorem own_val {i : Nat} {d : D} {a : Addr} (h : Own σ (e.set i (some (.val d))) a) : ∃ j, j ≠ i ∧ ∃ b ds, e[j]? = some (some (.own b ds)) ∧ σ[j]? = some (some (.ref a)) := by
  obtain ⟨j, b, ds, h1, h2⟩ := h
  rw [List.getElem?_set] at h1
  split at h1
  · split at h1 <;> simp at h1
  · rename_i hne
    exact ⟨j, fun q => hne q.symm, b, ds, h1, h2⟩
/-- a list of one's own becomes data -/
theorem freeze {i : Nat} {ds : List D} (r : Rel K G σ H e) (h : e[i]? = some (some (.own false ds))) :
    ∃ p, σ[i]? = some (some (.ref p)) ∧ Step σ e H σ (e.set i (some (.val (.list ds)))) H ∧ Rel K G σ H (e.set i (some (.val (.list ds)))) ∧ Dp K (vis G σ (e.set i (some (.val (.list ds)))) H) (.ref p) (.list ds) := by
  obtain ⟨p, xs, h1, h2, h3, h4⟩ := r.own i false ds h
  have st : Step σ e H σ (e.set i (some (.val (.list ds)))) H := by
    refine ⟨fun _ _ h _ _ => h, fun a w => ?_, fun _ h => h, fun j ds' hj => ⟨rfl, ds', ?_⟩⟩
    · obtain ⟨j, _, b, ds', q1, q2⟩ := own_val w
      exact .inl ⟨j, b, ds', q1, q2⟩
    · rw [List.getElem?_set]
      split
      · rename_i q
        subst q
        rw [h] at hj
        cases hj
      · exact hj
  have hn : ¬ Own σ (e.set i (some (.val (.list ds)))) p := fun w => by
    obtain ⟨j, hj, b, ds', q1, q2⟩ := own_val w
    exact hj (r.sep j i b false ds' ds p q1 h q2 h1)
  have dp : Dp K (vis G σ (e.set i (some (.val (.list ds)))) H) (.ref p) (.list ds) := .lst (.of (cut_of (fun w => w.elim h4 hn) h2)) (dpa_mono st.vis h3)
  refine ⟨p, h1, st, ⟨by rw [List.length_set]; exact r.len, fun j d hj => ?_, fun j b ds' hj => ?_, fun j k b c d1 d2 q hj hk => ?_, r.frn, r.tab, fun j y hj => ?_⟩, dp⟩
  · rw [List.getElem?_set] at hj
    split at hj
    · split at hj
      · rename_i q _
        cases hj
        subst q
        exact ⟨_, h1, dp⟩
      · cases hj
    · obtain ⟨v, q1, q2⟩ := r.val j d hj
      exact ⟨v, q1, dp_mono st.vis q2⟩
  · rw [List.getElem?_set] at hj
    split at hj
    · split at hj <;> cases hj
    · obtain ⟨p', xs', q1, q2, q3, q4⟩ := r.own j b ds' hj
      exact ⟨p', xs', q1, q2, dpa_mono st.vis q3, q4⟩
  · rw [List.getElem?_set] at hj hk
    split at hj
    · split at hj <;> cases hj
    · split at hk
      · split at hk <;> cases hk
      · exact r.sep j k b c d1 d2 q hj hk
  · rw [List.getElem?_set] at hj
    split at hj
    · split at hj <;> cases hj
    · exact r.fnr j y hj
theorem var_of {i : Nat} : ∀ σ H Q, tOf K (mVar i) σ H Q → tVar i σ H Q := by
  rintro σ H Q ⟨G, e, d, e', rel, hm, k⟩
  unfold mVar at hm
  split at hm
  · rename_i d' h
    cases hm
    obtain ⟨v, h1, h2⟩ := rel.val i _ h
    exact ⟨v, h1, k v H .refl rel h2⟩
  · rename_i ds h
    cases hm
    obtain ⟨p, h1, st, r2, dp⟩ := freeze rel h
    exact ⟨_, h1, k _ H st r2 dp⟩
  · cases hm
theorem jv (i : Nat) {x : Str} {pos : Pos} (hN : X.N[i]? = some x := by rfl) (hv : Vis X.env.scope x := by first | exact Or.inl rfl | exact Or.inr (Or.inl rfl) | exact Or.inr (Or.inr rfl)) (hd : (x == ("__debug__" : Str)) = false := by decide)
    (hcd : (x == ("__classdict__" : Str)) = false := by decide) : PE X (.Name x pos) (tOf (X.fg tq) (mVar i)) := PE.imp (pe_var hN hv hd hcd) var_of
end

/-! ### two-place operations -/
def mBin (f : D → D → Option D) (a b : ME) : ME := fun e => (a e).bind fun r => (b r.2).bind fun q => (f r.1 q.1).map fun z => (z, q.2)
/-- a rule of values that does f on data -/
def DoesD (K : Frag) (r : R2) (f : D → D → Option D) : Prop := ∀ (F : Addr → Prop) (H : Hp) (x y : V) (a b c : D) (Q : VK), (∀ z, F z → H z ≠ none) → Dp K (cut H F) x a → Dp K (cut H F) y b → f a b = some c →
  (∀ v H2, Same H H2 → Dp K (cut H2 F) v c → Q v H2) → r x y H Q
section
variable {K : Frag} {X : Cx} {a b : Expr} {ma mb : ME} {f g : D → D → Option D} {r : R2} {pos : Pos}
theorem bin_of (hd : DoesD K r f) : ∀ σ H Q, tOf K (mBin f ma mb) σ H Q → tOp r (tOf K ma) (tOf K mb) σ H Q := by
  rintro σ H Q ⟨G, e, d, e', rel, hm, k⟩
  unfold mBin at hm
  obtain ⟨⟨d1, e1⟩, h1, hm⟩ := Option.bind_eq_some_iff.mp hm
  obtain ⟨⟨d2, e2⟩, h2, hm⟩ := Option.bind_eq_some_iff.mp hm
  obtain ⟨d3, h3, hm⟩ := Option.map_eq_some_iff.mp hm
  obtain ⟨rfl, rfl⟩ := Prod.mk.inj hm
  refine ⟨G, e, d1, e1, rel, h1, fun v1 H1 s1 r1 p1 => ⟨G, e1, d2, e2, r1, h2, fun v2 H2 s2 r2 p2 => ?_⟩⟩
  refine hd (fun a => G a ∨ Own σ e2 a) H2 v1 v2 d1 d2 _ Q r2.ne0 (dp_mono s2.vis p1) p2 h3 fun v H3 sm dp => ?_
  exact k v H3 ((s1.trans s2).trans (.grow sm)) (r2.grow sm) dp
def OpD (X : Cx) (tq : List (Addr × Str)) (h : Value → Value → Sem Value) (f : D → D → Option D) : Prop := ∃ r, OpR X h r ∧ DoesD (X.fg tq) r f
theorem je_bin {op : Operator} (o : OpD X tq (binaryOp op) f) (ha : PE X a (tOf (X.fg tq) ma)) (hb : PE X b (tOf (X.fg tq) mb)) : PE X (.BinOp a op b pos) (tOf (X.fg tq) (mBin f ma mb)) := by
  obtain ⟨r, h, hd⟩ := o
  exact PE.imp (pe_op h ha hb) (bin_of hd)
theorem je_cmp {op : CmpOp} (o : OpD X tq (compareOp op) f) (ha : PE X a (tOf (X.fg tq) ma)) (hb : PE X b (tOf (X.fg tq) mb)) (hm : behindInMarks op b = false) : PE X (.Compare a [op] [b] pos) (tOf (X.fg tq) (mBin f ma mb)) := by
  obtain ⟨r, h, hd⟩ := o
  exact PE.imp (pe_cmpR h ha hb hm) (bin_of hd)
theorem OpD.or {h : Value → Value → Sem Value} (o : OpD X tq h f) (q : OpD X tq h g) : OpD X tq h (fun x y => (f x y).or (g x y)) := by
  obtain ⟨r, h1, d1⟩ := o
  obtain ⟨r', h2, d2⟩ := q
  refine ⟨_, h1.or h2, fun F H x y a b c Q hF ha hb hf k => ?_⟩
  have hf : (f a b).or (g a b) = some c := hf
  rcases hc : f a b with _ | c'
  · rw [hc] at hf
    exact .inr (d2 F H x y a b c Q hF ha hb (by simpa using hf) k)
  · rw [hc] at hf
    exact .inl (d1 F H x y a b c Q hF ha hb (by rw [hc]; simpa using hf) k)
end
def iOp (C : Int → Int → Bool) (g : Int → Int → D) : D → D → Option D
  | .int i, .int j => if C i j = true then some (g i j) else none
  | _, _ => none
theorem iOp_inv {C : Int → Int → Bool} {g : Int → Int → D} {a b c : D} (h : iOp C g a b = some c) : ∃ i j, a = .int i ∧ b = .int j ∧ C i j = true ∧ c = g i j := by
  unfold iOp at h
  split at h
  · split at h
    · rename_i i j hc
      cases h
      exact ⟨i, j, rfl, rfl, hc, rfl⟩
    · cases h
  · cases h
section
variable {X : Cx}
def cT : Int → Int → Bool := fun _ _ => true
def dAddI := iOp cT fun i j => .int (i + j)
def dSubI := iOp cT fun i j => .int (i - j)
def b01 (b : Bool) : Int := if b = true then 1 else 0
def bOp (g : Int → Int → Int) : D → D → Option D
  | .bool b, .int j => some (.int (g (b01 b) j))
  | _, _ => none
def rBI (g : Int → Int → Int) : R2 := fun x y H Q => ∃ b j, x = .bl b ∧ y = .int j ∧ Q (.int (g (b01 b) j)) H
theorem does_BI {K : Frag} {g : Int → Int → Int} : DoesD K (rBI g) (bOp g) := by
  intro F H x y a b c Q hF ha hb hf k
  unfold bOp at hf
  split at hf
  · cases hf
    cases ha
    cases hb
    exact ⟨_, _, rfl, rfl, k _ _ (.refl _) (.int _)⟩
  · cases hf
theorem op_addBI : OpR X (binaryOp .Add) (rBI (· + ·)) := by
  intro pins s σ H x y v u Q I rx ry h
  obtain ⟨b, j, rfl, rfl, q⟩ := h
  cases rx
  obtain ⟨t, rfl⟩ := ry
  exact PySem.IntBool.add_bool_int ⟨.int _, H, I.tok _, ⟨_, rfl⟩, q⟩
theorem op_subBI : OpR X (binaryOp .Sub) (rBI (· - ·)) := by
  intro pins s σ H x y v u Q I rx ry h
  obtain ⟨b, j, rfl, rfl, q⟩ := h
  cases rx
  obtain ⟨t, rfl⟩ := ry
  exact PySem.IntBool.sub_bool_int ⟨.int _, H, I.tok _, ⟨_, rfl⟩, q⟩
def dSub : D → D → Option D
  | .int i, .int j => some (.int (i - j))
  | .bool b, .int j => some (.int (b01 b - j))
  | _, _ => none
def dMul := iOp (fun i _ => decide (-(2 ^ 64) < i) && decide (i < 2 ^ 64)) fun i j => .int (i * j)
def dFdiv := iOp (fun _ j => decide (0 < j) && decide (j < 1073741824)) fun i j => .int (i / j)
def dMod := iOp (fun _ j => decide (0 < j)) fun i j => .int (i % j)
def dPow := iOp (fun i j => decide (0 ≤ j) && decide (j ≤ 1000000) && decide (i.natAbs < 2 ^ 64)) fun i j => .int (i ^ j.toNat)
theorem does_I0 {K : Frag} {g : Int → Int → V} {g' : Int → Int → D} (h : ∀ i j H, Dp K H (g i j) (g' i j)) : DoesD K (rI0 g) (iOp cT g') := by
  intro F H x y a b c Q hF ha hb hf k
  obtain ⟨i, j, rfl, rfl, _, rfl⟩ := iOp_inv hf
  cases ha
  cases hb
  exact ⟨i, j, rfl, rfl, k _ H (.refl H) (h i j _)⟩
theorem does_I {K : Frag} {C : Int → Int → Prop} {C' : Int → Int → Bool} {g : Int → Int → V} {g' : Int → Int → D} (hC : ∀ i j, C' i j = true → C i j) (h : ∀ i j H, Dp K H (g i j) (g' i j)) : DoesD K (rI C g) (iOp C' g') := by
  intro F H x y a b c Q hF ha hb hf k
  obtain ⟨i, j, rfl, rfl, hc, rfl⟩ := iOp_inv hf
  cases ha
  cases hb
  exact ⟨i, j, rfl, rfl, hC i j hc, k _ H (.refl H) (h i j _)⟩
theorem od_addI : OpD X tq (binaryOp .Add) dAddI := ⟨_, op_add, does_I0 fun _ _ _ => .int _⟩
theorem od_mul : OpD X tq (binaryOp .Mult) dMul := ⟨_, op_mul, does_I (fun i j h => .inl (by simpa using h)) fun _ _ _ => .int _⟩
theorem od_fdiv : OpD X tq (binaryOp .FloorDiv) dFdiv := ⟨_, op_fdiv, does_I (fun i j h => by simpa [CDiv] using h) fun _ _ _ => .int _⟩
theorem od_mod : OpD X tq (binaryOp .Mod) dMod := ⟨_, op_mod, does_I (fun i j h => by simpa using h) fun _ _ _ => .int _⟩
theorem od_pow : OpD X tq (binaryOp .Pow) dPow := ⟨_, op_pow, does_I (fun i j h => by simpa [CPow, and_assoc] using h) fun _ _ _ => .int _⟩
end

/-! ### + of lists, tuples -/
def szOk (n : Nat) : Bool := decide (n ≤ 100000)
theorem szOk_le {n : Nat} (h : szOk n = true) : n ≤ sizeLine := by
  rw [sizeLine_eq]
  have : n ≤ 100000 := of_decide_eq_true h
  omega
theorem szOk_lt {n : Nat} (h : szOk n = true) : n < sizeLine := by
  rw [sizeLine_eq]
  have : n ≤ 100000 := of_decide_eq_true h
  omega
theorem dp_list {K : Frag} {H : Hp} {v : V} {ds : List D} (h : Dp K H v (.list ds)) : ∃ a xs, v = .ref a ∧ SqL K H a xs ∧ DpAll K H xs ds := by
  cases h with
  | lst h t => exact ⟨_, _, rfl, h, t⟩
theorem dp_tup {K : Frag} {H : Hp} {v : V} {ds : List D} (h : Dp K H v (.tuple ds)) : ∃ a xs, v = .ref a ∧ SqT K H a xs ∧ DpAll K H xs ds := by
  cases h with
  | tup h t => exact ⟨_, _, rfl, h.weak, t⟩
theorem dp_tupS {K : Frag} {H : Hp} {v : V} {ds : List D} (h : Dp K H v (.tuple ds)) : ∃ a xs, v = .ref a ∧ SqS H a xs ∧ DpAll K H xs ds := by
  cases h with
  | tup h t => exact ⟨_, _, rfl, h, t⟩
theorem dp_bool {K : Frag} {H : Hp} {v : V} {b : Bool} (h : Dp K H v (.bool b)) : v = .bl b := by
  cases h
  rfl
theorem dp_int {K : Frag} {H : Hp} {v : V} {b : Int} (h : Dp K H v (.int b)) : v = .int b := by
  cases h
  rfl
theorem dp_str {K : Frag} {H : Hp} {v : V} {b : Str} (h : Dp K H v (.str b)) : v = .str b := by
  cases h
  rfl
/-- a new list, a new tuple, of data that stood -/
theorem dp_newL {K : Frag} {F : Addr → Prop} {H : Hp} {p : Addr} {xs : List V} {ds : List D} (hF : ∀ z, F z → H z ≠ none) (hp : H p = none) (h : DpAll K (cut H F) xs ds) : Dp K (cut (upd H p (.lst xs)) F) (.ref p) (.list ds) :=
  .lst (.of (cut_of (fun w => hF p w hp) upd_same)) (dpa_mono (same_cuts (same_new hp)) h)
theorem dp_newT {K : Frag} {F : Addr → Prop} {H : Hp} {p : Addr} {o : Obj} {xs : List V} {ds : List D} (hF : ∀ z, F z → H z ≠ none) (hp : H p = none) (ho : o.dict = none) (h : DpAll K (cut H F) xs ds) : Dp K (cut (upd H p (.frz o (.tup xs))) F) (.ref p) (.tuple ds) :=
  .tup ⟨o, cut_of (fun w => hF p w hp) upd_same, ho⟩ (dpa_mono (same_cuts (same_new hp)) h)
section
variable {X : Cx}
def rCatL (K : PySem.W.Frag) : R2 := fun x y H Q => ∃ l b xs zs, x = .ref l ∧ y = .ref b ∧ SqL K H l xs ∧ SqL K H b zs ∧ xs.length + zs.length ≤ sizeLine ∧ ∀ p, H p = none → Q (.ref p) (upd H p (.lst (xs ++ zs)))
theorem op_catL : OpR X (binaryOp .Add) (rCatL X.K) := by
  intro pins s σ H x y v u Q I rx ry h
  obtain ⟨l, b, xs, zs, rfl, rfl, hl, hb, hz, q⟩ := h
  cases rx
  cases ry
  obtain ⟨its, r, ⟨o, n, e, hc, hd, ht⟩, _⟩ := I.list hl
  obtain ⟨its2, r2, ⟨o2, n2, e2, hc2, hd2, ht2⟩, _⟩ := I.list hb
  obtain ⟨oc, od, dt, sl⟩ := o
  obtain ⟨oc2, od2, dt2, sl2⟩ := o2
  simp only at hc ht hc2 ht2
  subst hc ht hc2 ht2
  have hl1 := r.length
  have hl2 := r2.length
  refine concat_meets ⟨_, e, rfl⟩ ⟨_, e2, rfl⟩ noFill_list_add seq_list_add PySem.F.slot_list_add PySem.F.entry_list_add (PySem.F.args_list_add_2 _ _) (list_addW l b its.toArray its2.toArray n n2 od od2 sl sl2 (by rw [List.size_toArray, List.size_toArray]; omega)) ⟨e, e2, ?_⟩
  have ea : its.toArray ++ its2.toArray = (its ++ its2).toArray := by simp
  rw [ea]
  exact ⟨.ref _, _, I.lnew (t' := s.toks) (r.append r2) (by rw [List.length_append]; omega), rfl, q _ I.fresh⟩
def dCatL : D → D → Option D
  | .list a, .list b => if szOk (a.length + b.length) = true then some (.list (a ++ b)) else none
  | _, _ => none
theorem od_catL : OpD X tq (binaryOp .Add) dCatL := by
  refine ⟨_, op_catL, fun F H x y a b c Q hF ha hb hf k => ?_⟩
  unfold dCatL at hf
  split at hf
  · split at hf
    · rename_i ds es hz
      cases hf
      obtain ⟨l, xs, rfl, h1, t1⟩ := dp_list ha
      obtain ⟨l2, ys, rfl, h2, t2⟩ := dp_list hb
      have e1 := dpa_len t1
      have e2 := dpa_len t2
      refine ⟨l, l2, xs, ys, rfl, rfl, same_cut.seq h1, same_cut.seq h2, by rw [e1, e2]; exact szOk_le hz, fun p hp => k _ _ (same_new hp) ?_⟩
      exact dp_newL hF hp (dpa_app t1 t2)
    · cases hf
  · cases hf
def dCatT : D → D → Option D
  | .tuple a, .tuple b => if szOk (a.length + b.length) = true then some (.tuple (a ++ b)) else none
  | _, _ => none
theorem od_catT : OpD X tq (binaryOp .Add) dCatT := by
  refine ⟨_, op_catS, fun F H x y a b c Q hF ha hb hf k => ?_⟩
  unfold dCatT at hf
  split at hf
  · split at hf
    · rename_i ds es hz
      cases hf
      have ha' := ha
      have hb' := hb
      obtain ⟨l, xs, rfl, h1, t1⟩ := dp_tup ha
      obtain ⟨l2, ys, rfl, h2, t2⟩ := dp_tup hb
      have e1 := dpa_len t1
      have e2 := dpa_len t2
      refine ⟨l, l2, xs, ys, rfl, rfl, same_tup same_cut h1, same_tup same_cut h2, by rw [e1, e2]; exact szOk_le hz, fun z => ?_, fun z => ?_, fun p o hp ho => k _ _ (same_new hp) (dp_newT hF hp ho (dpa_app t1 t2))⟩
      · subst z
        cases t1
        exact k _ _ (.refl _) hb'
      · subst z
        cases t2
        rw [List.append_nil] at k
        exact k _ _ (.refl _) ha'
    · cases hf
  · cases hf
def dCatS : D → D → Option D
  | .str a, .str b => if szOk (a.length + b.length) = true then some (.str (a ++ b)) else none
  | _, _ => none
theorem od_catS : OpD X tq (binaryOp .Add) dCatS := by
  refine ⟨_, op_add_str, fun F H x y a b c Q hF ha hb hf k => ?_⟩
  unfold dCatS at hf
  split at hf
  · split at hf
    · rename_i ds es hz
      cases hf
      cases ha
      cases hb
      exact ⟨ds, es, rfl, rfl, szOk_le hz, k _ _ (.refl _) (.str _)⟩
    · cases hf
  · cases hf
def dAdd : D → D → Option D
  | .int i, .int j => some (.int (i + j))
  | .bool b, .int j => some (.int (b01 b + j))
  | .list a, .list b => if szOk (a.length + b.length) = true then some (.list (a ++ b)) else none
  | .tuple a, .tuple b => if szOk (a.length + b.length) = true then some (.tuple (a ++ b)) else none
  | .str a, .str b => if szOk (a.length + b.length) = true then some (.str (a ++ b)) else none
  | _, _ => none
theorem OpD.to {h : Value → Value → Sem Value} {f g : D → D → Option D} (o : OpD X tq h f) (e : ∀ a b c, g a b = some c → f a b = some c) : OpD X tq h g := by
  obtain ⟨r, h1, d1⟩ := o
  exact ⟨r, h1, fun F H x y a b c Q hF ha hb hf k => d1 F H x y a b c Q hF ha hb (e a b c hf) k⟩
theorem od_add : OpD X tq (binaryOp .Add) dAdd := by
  have bi : OpD X tq (binaryOp .Add) (bOp (· + ·)) := ⟨_, op_addBI, does_BI⟩
  refine OpD.to (od_addI.or (bi.or (od_catL.or (od_catT.or od_catS)))) fun a b c h => ?_
  cases a <;> cases b <;> simp_all [dAdd, dAddI, iOp, cT, dCatL, dCatT, dCatS, bOp]
theorem od_sub : OpD X tq (binaryOp .Sub) dSub := by
  have bi : OpD X tq (binaryOp .Sub) (bOp (· - ·)) := ⟨_, op_subBI, does_BI⟩
  have ii : OpD X tq (binaryOp .Sub) dSubI := ⟨_, op_sub, does_I0 fun _ _ _ => .int _⟩
  refine OpD.to (ii.or bi) fun a b c h => ?_
  cases a <;> cases b <;> simp_all [dSub, dSubI, iOp, cT, bOp]
end

/-! ### comparisons -/
section
variable {X : Cx}
def dEq (a b : D) : Option D := if (SeqAt.shaped a && SeqAt.shaped b) = true then some (.bool (PyData.eqv a b)) else none
def dNe (a b : D) : Option D := if (SeqAt.shaped a && SeqAt.shaped b) = true then some (.bool (!PyData.eqv a b)) else none
theorem od_eq (hu : X.A.units + 64 < cLine) : OpD X tq (compareOp .Eq) dEq := by
  refine ⟨_, op_eqD hu, fun F H x y a b c Q hF ha hb hf k => ?_⟩
  unfold dEq at hf
  split at hf
  · rename_i hs
    cases hf
    rw [Bool.and_eq_true] at hs
    exact ⟨a, b, (dp_mono same_cut ha).weak (noDc_shaped hs.1), (dp_mono same_cut hb).weak (noDc_shaped hs.2), hs.1, hs.2, k _ _ (.refl _) (.bl _)⟩
  · cases hf
theorem od_ne (hu : X.A.units + 64 < cLine) : OpD X tq (compareOp .NotEq) dNe := by
  refine ⟨_, op_neD hu, fun F H x y a b c Q hF ha hb hf k => ?_⟩
  unfold dNe at hf
  split at hf
  · rename_i hs
    cases hf
    rw [Bool.and_eq_true] at hs
    exact ⟨a, b, (dp_mono same_cut ha).weak (noDc_shaped hs.1), (dp_mono same_cut hb).weak (noDc_shaped hs.2), hs.1, hs.2, k _ _ (.refl _) (.bl _)⟩
  · cases hf
def sOp (g : Str → Str → Bool) : D → D → Option D
  | .str i, .str j => some (.bool (g i j))
  | _, _ => none
theorem does_S {K : Frag} {g : Str → Str → Bool} : DoesD K (fun x y H Q => ∃ i j, x = .str i ∧ y = .str j ∧ Q (.bl (g i j)) H) (sOp g) := by
  intro F H x y a b c Q hF ha hb hf k
  unfold sOp at hf
  split at hf
  · cases hf
    cases ha
    cases hb
    exact ⟨_, _, rfl, rfl, k _ _ (.refl _) (.bl _)⟩
  · cases hf
def sLt (i j : Str) : Bool := decide (i.cps.toList < j.cps.toList)
/-- numbers, texts -/
def dCmp (p : Int → Int → Bool) (q : Str → Str → Bool) : D → D → Option D
  | .int i, .int j => some (.bool (p i j))
  | .str i, .str j => some (.bool (q i j))
  | _, _ => none
def dLt := dCmp (fun i j => decide (i < j)) sLt
def dLe := dCmp (fun i j => decide (i ≤ j)) (fun i j => !sLt j i)
def dGt := dCmp (fun i j => decide (j < i)) (fun i j => sLt j i)
def dGe := dCmp (fun i j => decide (j ≤ i)) (fun i j => !sLt i j)
theorem od_cmp {h : Value → Value → Sem Value} {p : Int → Int → Bool} {q : Str → Str → Bool} (h1 : OpR X h (rI0 fun i j => .bl (p i j))) (h2 : OpR X h (fun x y H Q => ∃ i j, x = .str i ∧ y = .str j ∧ Q (.bl (q i j)) H)) : OpD X tq h (dCmp p q) := by
  have o1 : OpD X tq h (iOp cT fun i j => .bool (p i j)) := ⟨_, h1, does_I0 fun _ _ _ => .bl _⟩
  have o2 : OpD X tq h (sOp q) := ⟨_, h2, does_S⟩
  refine OpD.to (o1.or o2) fun a b c h => ?_
  cases a <;> cases b <;> simp_all [dCmp, iOp, cT, sOp]
theorem od_lt : OpD X tq (compareOp .Lt) dLt := od_cmp op_lt op_lt_str
theorem od_le : OpD X tq (compareOp .LtE) dLe := od_cmp op_le op_le_str
theorem od_gt : OpD X tq (compareOp .Gt) dGt := od_cmp op_gt op_gt_str
theorem od_ge : OpD X tq (compareOp .GtE) dGe := od_cmp op_ge op_ge_str
def isNone : D → Bool
  | .none => true
  | _ => false
def dIs : D → D → Option D
  | a, .none => some (.bool (isNone a))
  | _, _ => none
def dIsNot : D → D → Option D
  | a, .none => some (.bool (!isNone a))
  | _, _ => none
theorem none_iff {K : Frag} {H : Hp} {x : V} {a : D} (h : Dp K H x a) : decide (x = .non) = isNone a := by
  cases h <;> simp [isNone]
theorem od_is : OpD X tq (compareOp .Is) dIs := by
  refine ⟨_, op_isN, fun F H x y a b c Q hF ha hb hf k => ?_⟩
  unfold dIs at hf
  split at hf
  · cases hf
    cases hb
    refine ⟨rfl, ?_⟩
    rw [none_iff ha]
    exact k _ _ (.refl _) (.bl _)
  · cases hf
theorem od_isnot : OpD X tq (compareOp .IsNot) dIsNot := by
  refine ⟨_, op_notN, fun F H x y a b c Q hF ha hb hf k => ?_⟩
  unfold dIsNot at hf
  split at hf
  · cases hf
    cases hb
    refine ⟨rfl, ?_⟩
    rw [none_iff ha]
    exact k _ _ (.refl _) (.bl _)
  · cases hf
end
end PB

set_option maxHeartbeats 4000000
namespace PB
open PySem PySem.Spec PyProof.Rows L2

/-! ### subscripts -/
theorem dpa_atI {K : Frag} {H : Hp} {xs : List V} {ds : List D} {i : Int} {d : D} (h : DpAll K H xs ds) (e : atI ds i = some d) : ∃ v, atI xs i = some v ∧ Dp K H v d := by
  unfold atI at e ⊢
  rw [dpa_len h]
  cases hq : ixN ds.length i with
  | none => rw [hq] at e; cases e
  | some j =>
    rw [hq] at e
    have e' : ds[j]? = some d := e
    obtain ⟨u, h1, h2⟩ := dpa_get h e'
    exact ⟨u, h1, h2⟩
def dIx : D → D → Option D
  | .list ds, .int i => atI ds i
  | .tuple ds, .int i => atI ds i
  | .str s, .int i => if szOk s.length = true then (atI s.cps.toList i).map fun c => .str ⟨#[c]⟩ else none
  | _, _ => none
section
variable {K : Frag} {X : Cx} {a b : Expr} {ma mb : ME} {pos : Pos}
theorem does_ix : DoesD K (rIx K) dIx := by
  intro F H x y a b c Q hF ha hb hf k
  unfold dIx at hf
  split at hf
  · obtain ⟨l, xs, rfl, h1, t1⟩ := dp_list ha
    cases hb
    obtain ⟨v, e1, e2⟩ := dpa_atI t1 hf
    exact .inl ⟨l, xs, _, v, rfl, rfl, same_cut.seq h1, e1, k _ _ (.refl _) e2⟩
  · obtain ⟨l, xs, rfl, h1, t1⟩ := dp_tup ha
    cases hb
    obtain ⟨v, e1, e2⟩ := dpa_atI t1 hf
    exact .inr (.inl ⟨l, xs, _, v, rfl, rfl, same_tup same_cut h1, e1, k _ _ (.refl _) e2⟩)
  · split at hf
    · rename_i hz
      cases ha
      cases hb
      obtain ⟨c', h1, h2⟩ := Option.map_eq_some_iff.mp hf
      subst h2
      exact .inr (.inr ⟨_, _, c', rfl, rfl, szOk_le hz, h1, k _ _ (.refl _) (.str _)⟩)
    · cases hf
  · cases hf
theorem je_ix (ha : PE X a (tOf (X.fg tq) ma)) (hb : PE X b (tOf (X.fg tq) mb)) (hs : PlainIx b) : PE X (.Subscript a b pos) (tOf (X.fg tq) (mBin dIx ma mb)) := PE.imp (pe_ix ix_seq ha hb hs) (bin_of does_ix)
/-- an item of a list of one's own -/
def mIxOwn (i : Nat) (mb : ME) : ME := fun e => match e[i]? with
  | some (some (.own _ _)) => (mb e).bind fun r => match r.1, r.2[i]? with
    | .int j, some (some (.own _ ds)) => (atI ds j).map fun z => (z, r.2)
    | _, _ => none
  | _ => none
theorem je_ixOwn (i : Nat) {x : Str} {p : Pos} (hb : PE X b (tOf (X.fg tq) mb)) (hs : PlainIx b) (hN : X.N[i]? = some x := by rfl) (hv : Vis X.env.scope x := by first | exact Or.inl rfl | exact Or.inr (Or.inl rfl) | exact Or.inr (Or.inr rfl))
    (hd : (x == ("__debug__" : Str)) = false := by decide) (hcd : (x == ("__classdict__" : Str)) = false := by decide) : PE X (.Subscript (.Name x p) b pos) (tOf (X.fg tq) (mIxOwn i mb)) := by
  refine PE.imp (pe_ix ix_list (pe_var hN hv hd hcd) hb hs) ?_
  rintro σ H Q ⟨G, e, d, e', rel, hm, k⟩
  unfold mIxOwn at hm
  split at hm
  · rename_i b0 ds0 h0
    obtain ⟨⟨d1, e1⟩, h1, hm⟩ := Option.bind_eq_some_iff.mp hm
    simp only at hm
    split at hm
    · rename_i j bb ds hj
      obtain ⟨z, hz, hm⟩ := Option.map_eq_some_iff.mp hm
      obtain ⟨rfl, rfl⟩ := Prod.mk.inj hm
      obtain ⟨q, xs0, s1, _⟩ := rel.own i _ _ h0
      refine ⟨.ref q, s1, G, e, _, e1, rel, h1, fun v H1 st r1 dp => ?_⟩
      cases dp
      obtain ⟨q', xs, s2, hx, hd2, _⟩ := r1.own i _ _ hj
      rw [s1] at s2
      cases s2
      obtain ⟨v, e1', e2⟩ := dpa_atI hd2 hz
      exact ⟨q, xs, j, v, rfl, rfl, .of hx, e1', k v H1 st r1 e2⟩
    · cases hm
  · cases hm

/-! ### slices -/
def cutD (xs : List D) (lo hi : Option Int) : List D := (xs.drop (HT.sIx xs.length 0 lo)).take (HT.sIx xs.length xs.length hi - HT.sIx xs.length 0 lo)
theorem dpa_cut {H : Hp} {xs : List V} {ds : List D} (lo hi : Option Int) (h : DpAll K H xs ds) : DpAll K H (cutV xs lo hi) (cutD ds lo hi) := by
  unfold cutV cutD
  rw [dpa_len h]
  exact dpa_take _ (dpa_drop _ h)
theorem cutD_whole {ds : List D} {lo hi : Option Int} (h : HT.sIx ds.length 0 lo = 0 ∧ HT.sIx ds.length ds.length hi = ds.length) : cutD ds lo hi = ds := by
  unfold cutD
  rw [h.1, h.2]
  simp
abbrev MO := Sg → Option (Option Int × Sg)
def mNoPart : MO := fun e => some (none, e)
def mPart (a : ME) : MO := fun e => (a e).bind fun r => match r.1 with
  | .int i => some (some i, r.2)
  | _ => none
def tOOf (K : Frag) (m : MO) : TO := fun σ H Q => ∃ G e o e', Rel K G σ H e ∧ m e = some (o, e') ∧ ∀ H', Step σ e H σ e' H' → Rel K G σ H' e' → Q o H'
theorem PO.imp {e : Option Expr} {t t' : TO} (h : PO X e t) (i : ∀ σ H Q, t' σ H Q → t σ H Q) : PO X e t' := ⟨fun pins s σ H Q I w => h.run pins s σ H Q I (i σ H Q w)⟩
theorem jo_none : PO X none (tOOf (X.fg tq) mNoPart) := PO.imp po_none (by
  rintro σ H Q ⟨G, e, o, e', rel, hm, k⟩
  cases hm
  exact k H .refl rel)
theorem jo_some (ha : PE X a (tOf (X.fg tq) ma)) : PO X (some a) (tOOf (X.fg tq) (mPart ma)) := PO.imp (po_some ha) (by
  rintro σ H Q ⟨G, e, o, e', rel, hm, k⟩
  obtain ⟨⟨d1, e1⟩, h1, hm⟩ := Option.bind_eq_some_iff.mp hm
  simp only at hm
  split at hm
  · cases hm
    refine ⟨G, e, _, _, rel, h1, fun v H1 st r1 dp => ?_⟩
    cases dp
    exact ⟨_, rfl, k H1 st r1⟩
  · cases hm)
def dSl (d : D) (lo hi : Option Int) : Option D := match d with
  | .list ds => some (.list (cutD ds lo hi))
  | .tuple ds => some (.tuple (cutD ds lo hi))
  | _ => none
def mSl (a : ME) (lo hi : MO) : ME := fun e => (a e).bind fun r => (lo r.2).bind fun l => (hi l.2).bind fun u => (dSl r.1 l.1 u.1).map fun z => (z, u.2)
theorem je_slice {lo hi : Option Expr} {ml mh : MO} {p2 : Pos} (ha : PE X a (tOf (X.fg tq) ma)) (hl : PO X lo (tOOf (X.fg tq) ml)) (hh : PO X hi (tOOf (X.fg tq) mh)) : PE X (.Subscript a (.Slice lo hi none p2) pos) (tOf (X.fg tq) (mSl ma ml mh)) := by
  refine PE.imp (pe_slice (sl_list.or sl_tupS) ha hl hh) ?_
  rintro σ H Q ⟨G, e, d, e', rel, hm, k⟩
  obtain ⟨⟨d1, e1⟩, h1, hm⟩ := Option.bind_eq_some_iff.mp hm
  obtain ⟨⟨l, e2⟩, h2, hm⟩ := Option.bind_eq_some_iff.mp hm
  obtain ⟨⟨u, e3⟩, h3, hm⟩ := Option.bind_eq_some_iff.mp hm
  obtain ⟨z, h4, hm⟩ := Option.map_eq_some_iff.mp hm
  obtain ⟨rfl, rfl⟩ := Prod.mk.inj hm
  refine ⟨G, e, d1, e1, rel, h1, fun v H1 s1 r1 dp => ⟨G, e1, l, e2, r1, h2, fun H2 s2 r2 => ⟨G, e2, u, e3, r2, h3, fun H3 s3 r3 => ?_⟩⟩⟩
  have dp3 := dp_mono (s2.trans s3).vis dp
  have st := (s1.trans s2).trans s3
  simp only at h4
  unfold dSl at h4
  split at h4
  · cases h4
    obtain ⟨l', xs, rfl, q1, t1⟩ := dp_list dp3
    refine .inl ⟨l', xs, rfl, same_cut.seq q1, fun p hp => k _ _ (st.trans (.grow (same_new hp))) (r3.grow (same_new hp)) ?_⟩
    exact dp_newL r3.ne0 hp (dpa_cut _ _ t1)
  · cases h4
    have dp4 := dp3
    obtain ⟨l', xs, rfl, q1, t1⟩ := dp_tup dp3
    have el := dpa_len t1
    refine .inr ⟨l', xs, rfl, same_tup same_cut q1, fun hw => ?_, fun p o hp ho => k _ _ (st.trans (.grow (same_new hp))) (r3.grow (same_new hp)) ?_⟩
    · rw [el] at hw
      refine k _ _ st r3 ?_
      rw [cutD_whole hw]
      exact dp4
    · exact dp_newT r3.ne0 hp ho (dpa_cut _ _ t1)
  · cases h4

/-! ### one-place operations -/
def mUn (f : D → Option D) (a : ME) : ME := fun e => (a e).bind fun r => (f r.1).map fun z => (z, r.2)
def dNeg : D → Option D
  | .int i => some (.int (-i))
  | _ => none
theorem je_neg (ha : PE X a (tOf (X.fg tq) ma)) : PE X (.UnaryOp .USub a pos) (tOf (X.fg tq) (mUn dNeg ma)) := by
  refine PE.imp (pe_un un_neg ha) ?_
  rintro σ H Q ⟨G, e, d, e', rel, hm, k⟩
  obtain ⟨⟨d1, e1⟩, h1, hm⟩ := Option.bind_eq_some_iff.mp hm
  obtain ⟨z, h2, hm⟩ := Option.map_eq_some_iff.mp hm
  obtain ⟨rfl, rfl⟩ := Prod.mk.inj hm
  refine ⟨G, e, d1, e1, rel, h1, fun v H1 s1 r1 dp => ?_⟩
  simp only at h2
  unfold dNeg at h2
  split at h2
  · cases h2
    cases dp
    exact ⟨_, rfl, k _ _ s1 r1 (.int _)⟩
  · cases h2

/-! ### tests -/
def truth : D → Option Bool
  | .none => some false
  | .bool b => some b
  | .int i => some (i != 0)
  | .str s => if szOk s.length = true then some ((s.length : Int) != 0) else none
  | .list ds => some (!ds.isEmpty)
  | .tuple ds => some (!ds.isEmpty)
  | _ => none
theorem truv {H H' : Hp} {v : V} {d : D} {b : Bool} (sm : Same H H') (h : Dp K H v d) (e : truth d = some b) : TruV K v H' b := by
  cases h with
  | non => cases e; rfl
  | bl b' => cases e; rfl
  | int i => cases e; rfl
  | str s =>
    unfold truth at e
    simp only at e
    split at e
    · rename_i hz
      cases e
      exact ⟨szOk_le hz, rfl⟩
    · cases e
  | lst q t =>
    cases e
    refine .inl ⟨_, sm.seq q, ?_⟩
    cases t <;> rfl
  | tup q t =>
    cases e
    refine .inr (.inl ⟨_, same_tup sm q.weak, ?_⟩)
    cases t <;> rfl
  | dk _ _ => cases e
  | dn _ _ => cases e
def mTru (a : ME) : MT := fun e => (a e).bind fun r => (truth r.1).map fun b => (b, r.2)
theorem jt_val (ha : PE X a (tOf (X.fg tq) ma)) (he : ∀ whole, isTrue a X.env whole = (do let v ← whole; standAt a.pos; holding [v] (truthy v)) := by intro _; rfl) : PT X a (tTOf (X.fg tq) (mTru ma)) := by
  refine PT.imp (pt_truth ha he) ?_
  rintro σ H Q ⟨G, e, d, e', rel, hm, k⟩
  obtain ⟨⟨d1, e1⟩, h1, hm⟩ := Option.bind_eq_some_iff.mp hm
  obtain ⟨z, h2, hm⟩ := Option.map_eq_some_iff.mp hm
  obtain ⟨rfl, rfl⟩ := Prod.mk.inj hm
  exact ⟨G, e, d1, e1, rel, h1, fun v H1 s1 r1 dp => ⟨_, truv same_cut dp h2, k H1 s1 r1⟩⟩
/-- a comparison as a test -/
def isB : D → Option Bool
  | .bool b => some b
  | _ => none
def mB (a : ME) : MT := fun e => (a e).bind fun r => (isB r.1).map fun b => (b, r.2)
theorem b_of {m : ME} : ∀ σ H Q, tTOf K (mB m) σ H Q → tTest (tOf K m) σ H Q := by
  rintro σ H Q ⟨G, e, d, e', rel, hm, k⟩
  obtain ⟨⟨d1, e1⟩, h1, hm⟩ := Option.bind_eq_some_iff.mp hm
  obtain ⟨z, h2, hm⟩ := Option.map_eq_some_iff.mp hm
  obtain ⟨rfl, rfl⟩ := Prod.mk.inj hm
  refine ⟨G, e, d1, e1, rel, h1, fun v H1 s1 r1 dp => ?_⟩
  simp only at h2
  unfold isB at h2
  split at h2
  · cases h2
    cases dp
    exact ⟨_, rfl, k H1 s1 r1⟩
  · cases h2
theorem jt_cmp {op : CmpOp} {f : D → D → Option D} (o : OpD X tq (compareOp op) f) (ha : PE X a (tOf (X.fg tq) ma)) (hb : PE X b (tOf (X.fg tq) mb)) (hm : behindInMarks op b = false) : PT X (.Compare a [op] [b] pos) (tTOf (X.fg tq) (mB (mBin f ma mb))) := by
  obtain ⟨r, h, hd⟩ := o
  refine PT.imp (pt_cmpR h ha hb hm) fun σ H Q w => ?_
  exact bin_of hd σ H _ (b_of σ H Q w)
/-- a op b op' c -/
def mChain (f g : D → D → Option D) (a b c : ME) : ME := fun e => (a e).bind fun r => (b r.2).bind fun q => (f r.1 q.1).bind fun z => match z with
  | .bool k => if k = true then (c q.2).bind fun s => (g q.1 s.1).map fun y => (y, s.2) else some (.bool false, q.2)
  | _ => none
theorem chain_of {f g : D → D → Option D} {r r' : R2} {mc : ME} (hd : DoesD K r f) (hd' : DoesD K r' g) : ∀ σ H Q, tOf K (mChain f g ma mb mc) σ H Q → tChain r r' (tOf K ma) (tOf K mb) (tOf K mc) σ H Q := by
  rintro σ H Q ⟨G, e, d, e', rel, hm, k⟩
  obtain ⟨⟨d1, e1⟩, h1, hm⟩ := Option.bind_eq_some_iff.mp hm
  obtain ⟨⟨d2, e2⟩, h2, hm⟩ := Option.bind_eq_some_iff.mp hm
  obtain ⟨z, h3, hm⟩ := Option.bind_eq_some_iff.mp hm
  refine ⟨G, e, d1, e1, rel, h1, fun v1 H1 s1 r1 p1 => ⟨G, e1, d2, e2, r1, h2, fun v2 H2 s2 r2 p2 => ?_⟩⟩
  refine hd (fun a => G a ∨ Own σ e2 a) H2 v1 v2 d1 d2 z _ r2.ne0 (dp_mono s2.vis p1) p2 h3 fun v H3 sm dp => ?_
  have r3 := r2.grow sm
  have s3 := (s1.trans s2).trans (Step.grow (e := e2) sm)
  split at hm
  · split at hm
    · rename_i hk
      subst hk
      obtain ⟨⟨d4, e4⟩, h4, hm⟩ := Option.bind_eq_some_iff.mp hm
      obtain ⟨y, h5, hm⟩ := Option.map_eq_some_iff.mp hm
      obtain ⟨rfl, rfl⟩ := Prod.mk.inj hm
      cases dp
      refine ⟨true, rfl, iteT ⟨G, e2, d4, e4, r3, h4, fun v4 H4 s4 r4 p4 => ?_⟩⟩
      refine hd' (fun a => G a ∨ Own σ e4 a) H4 v2 v4 d2 d4 _ _ r4.ne0 (dp_mono ((Step.grow (e := e2) sm).trans s4).vis p2) p4 h5 fun v5 H5 sm5 dp5 => ?_
      exact k v5 H5 ((s3.trans s4).trans (.grow sm5)) (r4.grow sm5) dp5
    · rename_i kk hk
      cases hm
      cases dp
      cases kk with
      | true => exact absurd rfl hk
      | false => exact ⟨false, rfl, iteF (k _ _ s3 r3 (.bl _))⟩
  · cases hm
theorem je_chain {op op' : CmpOp} {c : Expr} {mc : ME} {f g : D → D → Option D} (o : OpD X tq (compareOp op) f) (o' : OpD X tq (compareOp op') g) (ha : PE X a (tOf (X.fg tq) ma)) (hb : PE X b (tOf (X.fg tq) mb)) (hc : PE X c (tOf (X.fg tq) mc))
    (hm : lastMarks [op, op'] [b, c] = false := by with_unfolding_all rfl) : PE X (.Compare a [op, op'] [b, c] pos) (tOf (X.fg tq) (mChain f g ma mb mc)) := by
  obtain ⟨r, h, hd⟩ := o
  obtain ⟨r', h', hd'⟩ := o'
  exact PE.imp (pe_chain h h' ha hb hc hm) (chain_of hd hd')
theorem jt_chain {op op' : CmpOp} {c : Expr} {mc : ME} {f g : D → D → Option D} (o : OpD X tq (compareOp op) f) (o' : OpD X tq (compareOp op') g) (ha : PE X a (tOf (X.fg tq) ma)) (hb : PE X b (tOf (X.fg tq) mb)) (hc : PE X c (tOf (X.fg tq) mc))
    (hm : lastMarks [op, op'] [b, c] = false := by with_unfolding_all rfl) : PT X (.Compare a [op, op'] [b, c] pos) (tTOf (X.fg tq) (mB (mChain f g ma mb mc))) := by
  obtain ⟨r, h, hd⟩ := o
  obtain ⟨r', h', hd'⟩ := o'
  refine PT.imp (pt_chain h h' ha hb hc hm) fun σ H Q w => ?_
  exact chain_of hd hd' σ H _ (b_of σ H Q w)
/-! ### and, or, not -/
def mAndT (a b : MT) : MT := fun e => (a e).bind fun r => if r.1 = true then b r.2 else some (false, r.2)
def mOrT (a b : MT) : MT := fun e => (a e).bind fun r => if r.1 = true then some (true, r.2) else b r.2
def mNotT (a : MT) : MT := fun e => (a e).map fun r => (!r.1, r.2)
variable {ta tb : MT} {rest : List Expr}
theorem jw_and1 (ha : PT X a (tTOf (X.fg tq) ta)) : PW X (.BoolOp .And [a] pos) (tTOf (X.fg tq) ta) := pw_and1 ha
theorem jw_or1 (ha : PT X a (tTOf (X.fg tq) ta)) : PW X (.BoolOp .Or [a] pos) (tTOf (X.fg tq) ta) := pw_or1 ha
theorem jw_and (ha : PT X a (tTOf (X.fg tq) ta)) (hb : PW X (.BoolOp .And (b :: rest) pos) (tTOf (X.fg tq) tb)) : PW X (.BoolOp .And (a :: b :: rest) pos) (tTOf (X.fg tq) (mAndT ta tb)) := by
  refine PW.imp (pw_and ha hb) ?_
  rintro σ H Q ⟨G, e, d, e', rel, hm, k⟩
  obtain ⟨⟨d1, e1⟩, h1, hm⟩ := Option.bind_eq_some_iff.mp hm
  refine ⟨G, e, d1, e1, rel, h1, fun H1 s1 r1 => ?_⟩
  cases d1 with
  | true => exact iteT ⟨G, e1, d, e', r1, hm, fun H2 s2 r2 => k H2 (s1.trans s2) r2⟩
  | false =>
    cases hm
    exact iteF (k H1 s1 r1)
theorem jw_or (ha : PT X a (tTOf (X.fg tq) ta)) (hb : PW X (.BoolOp .Or (b :: rest) pos) (tTOf (X.fg tq) tb)) : PW X (.BoolOp .Or (a :: b :: rest) pos) (tTOf (X.fg tq) (mOrT ta tb)) := by
  refine PW.imp (pw_or ha hb) ?_
  rintro σ H Q ⟨G, e, d, e', rel, hm, k⟩
  obtain ⟨⟨d1, e1⟩, h1, hm⟩ := Option.bind_eq_some_iff.mp hm
  refine ⟨G, e, d1, e1, rel, h1, fun H1 s1 r1 => ?_⟩
  cases d1 with
  | false => exact iteF ⟨G, e1, d, e', r1, hm, fun H2 s2 r2 => k H2 (s1.trans s2) r2⟩
  | true =>
    cases hm
    exact iteT (k H1 s1 r1)
theorem jt_w (h : PW X a (tTOf (X.fg tq) ta)) : PT X a (tTOf (X.fg tq) ta) := h.pt
theorem jt_not (ha : PT X a (tTOf (X.fg tq) ta)) : PT X (.UnaryOp .Not a pos) (tTOf (X.fg tq) (mNotT ta)) := by
  refine PT.imp (pt_not ha) ?_
  rintro σ H Q ⟨G, e, d, e', rel, hm, k⟩
  obtain ⟨⟨d1, e1⟩, h1, hm⟩ := Option.map_eq_some_iff.mp hm
  obtain ⟨rfl, rfl⟩ := Prod.mk.inj hm
  exact ⟨G, e, d1, e1, rel, h1, fun H1 s1 r1 => k H1 s1 r1⟩
/-- .. as values (truths) -/
def mAndV (a b : ME) : ME := fun e => (a e).bind fun r => match r.1 with
  | .bool k => if k = true then b r.2 else some (.bool false, r.2)
  | _ => none
def mOrV (a b : ME) : ME := fun e => (a e).bind fun r => match r.1 with
  | .bool k => if k = true then some (.bool true, r.2) else b r.2
  | _ => none
theorem je_one {op : BoolOp} (ha : PE X a (tOf (X.fg tq) ma)) : PE X (.BoolOp op [a] pos) (tOf (X.fg tq) ma) := pe_one ha
theorem je_and (ha : PE X a (tOf (X.fg tq) ma)) (hb : PE X (.BoolOp .And (b :: rest) pos) (tOf (X.fg tq) mb)) : PE X (.BoolOp .And (a :: b :: rest) pos) (tOf (X.fg tq) (mAndV ma mb)) := by
  refine PE.imp (pe_and ha hb) ?_
  rintro σ H Q ⟨G, e, d, e', rel, hm, k⟩
  obtain ⟨⟨d1, e1⟩, h1, hm⟩ := Option.bind_eq_some_iff.mp hm
  refine ⟨G, e, d1, e1, rel, h1, fun v H1 s1 r1 dp => ?_⟩
  simp only at hm
  split at hm
  · rename_i kk
    cases dp
    cases kk with
    | true => exact ⟨true, rfl, iteT ⟨G, e1, d, e', r1, hm, fun v H2 s2 r2 dp2 => k v H2 (s1.trans s2) r2 dp2⟩⟩
    | false =>
      cases hm
      exact ⟨false, rfl, iteF (k _ H1 s1 r1 (.bl _))⟩
  · cases hm
theorem je_or (ha : PE X a (tOf (X.fg tq) ma)) (hb : PE X (.BoolOp .Or (b :: rest) pos) (tOf (X.fg tq) mb)) : PE X (.BoolOp .Or (a :: b :: rest) pos) (tOf (X.fg tq) (mOrV ma mb)) := by
  refine PE.imp (pe_or ha hb) ?_
  rintro σ H Q ⟨G, e, d, e', rel, hm, k⟩
  obtain ⟨⟨d1, e1⟩, h1, hm⟩ := Option.bind_eq_some_iff.mp hm
  refine ⟨G, e, d1, e1, rel, h1, fun v H1 s1 r1 dp => ?_⟩
  simp only at hm
  split at hm
  · rename_i kk
    cases dp
    cases kk with
    | true =>
      cases hm
      exact ⟨true, rfl, iteT (k _ H1 s1 r1 (.bl _))⟩
    | false => exact ⟨false, rfl, iteF ⟨G, e1, d, e', r1, hm, fun v H2 s2 r2 dp2 => k v H2 (s1.trans s2) r2 dp2⟩⟩
  · cases hm
def dNot : D → Option D
  | .bool b => some (.bool (!b))
  | _ => none
theorem je_not (ha : PE X a (tOf (X.fg tq) ma)) : PE X (.UnaryOp .Not a pos) (tOf (X.fg tq) (mUn dNot ma)) := by
  refine PE.imp (pe_not ha) ?_
  rintro σ H Q ⟨G, e, d, e', rel, hm, k⟩
  obtain ⟨⟨d1, e1⟩, h1, hm⟩ := Option.bind_eq_some_iff.mp hm
  obtain ⟨z, h2, hm⟩ := Option.map_eq_some_iff.mp hm
  obtain ⟨rfl, rfl⟩ := Prod.mk.inj hm
  refine ⟨G, e, d1, e1, rel, h1, fun v H1 s1 r1 dp => ?_⟩
  simp only at h2
  unfold dNot at h2
  split at h2
  · cases h2
    cases dp
    exact ⟨_, rfl, k _ _ s1 r1 (.bl _)⟩
  · cases h2
def mIfE (t : MT) (a b : ME) : ME := fun e => (t e).bind fun r => if r.1 = true then a r.2 else b r.2
theorem je_if {c : Expr} (hc : PT X c (tTOf (X.fg tq) ta)) (ha : PE X a (tOf (X.fg tq) ma)) (hb : PE X b (tOf (X.fg tq) mb)) : PE X (.IfExp c a b pos) (tOf (X.fg tq) (mIfE ta ma mb)) := by
  refine PE.imp (pe_ifExp hc ha hb) ?_
  rintro σ H Q ⟨G, e, d, e', rel, hm, k⟩
  obtain ⟨⟨d1, e1⟩, h1, hm⟩ := Option.bind_eq_some_iff.mp hm
  refine ⟨G, e, d1, e1, rel, h1, fun H1 s1 r1 => ?_⟩
  cases d1 with
  | true => exact iteT ⟨G, e1, d, e', r1, hm, fun v H2 s2 r2 dp2 => k v H2 (s1.trans s2) r2 dp2⟩
  | false => exact iteF ⟨G, e1, d, e', r1, hm, fun v H2 s2 r2 dp2 => k v H2 (s1.trans s2) r2 dp2⟩
end
end PB

set_option maxHeartbeats 4000000
namespace PB
open PySem PySem.Spec PyProof.Rows L2

/-! ### arguments, displays -/
def mNil : ML := fun e => some ([], e)
def mCons (a : ME) (r : ML) : ML := fun e => (a e).bind fun x => (r x.2).map fun y => (x.1 :: y.1, y.2)
section
variable {K : Frag} {X : Cx} {a : Expr} {es : List Expr} {ma : ME} {ms : ML} {pos : Pos}
theorem ja_nil : PA X [] (tAOf (X.fg tq) mNil) := PA.imp pa_nil (by
  rintro σ H Q ⟨G, e, d, e', rel, hm, k⟩
  cases hm
  exact k [] H .refl rel .nil)
theorem ja_cons (ha : PE X a (tOf (X.fg tq) ma)) (hr : PA X es (tAOf (X.fg tq) ms)) (hs : starEach (a :: es) X.env = (false, eval a X.env) :: starEach es X.env := by rfl) : PA X (a :: es) (tAOf (X.fg tq) (mCons ma ms)) := by
  refine PA.imp (pa_cons ha hr hs) ?_
  rintro σ H Q ⟨G, e, d, e', rel, hm, k⟩
  obtain ⟨⟨d1, e1⟩, h1, hm⟩ := Option.bind_eq_some_iff.mp hm
  obtain ⟨⟨d2, e2⟩, h2, hm⟩ := Option.map_eq_some_iff.mp hm
  obtain ⟨rfl, rfl⟩ := Prod.mk.inj hm
  refine ⟨G, e, d1, e1, rel, h1, fun v H1 s1 r1 dp => ⟨G, e1, d2, _, r1, h2, fun vs H2 s2 r2 dps => ?_⟩⟩
  exact k _ H2 (s1.trans s2) r2 (.cons (dp_mono s2.vis dp) dps)
def mTup (m : ML) : ME := fun e => (m e).bind fun r => if szOk r.1.length = true then some (.tuple r.1, r.2) else none
theorem je_tup {x1 : Nat} (h : PA X es (tAOf (X.fg tq) ms)) : PE X (.Tuple es x1 pos) (tOf (X.fg tq) (mTup ms)) := by
  refine PE.imp (pe_tupS h) ?_
  rintro σ H Q ⟨G, e, d, e', rel, hm, k⟩
  obtain ⟨⟨d1, e1⟩, h1, hm⟩ := Option.bind_eq_some_iff.mp hm
  simp only at hm
  split at hm
  · rename_i hz
    cases hm
    refine ⟨G, e, d1, _, rel, h1, fun vs H1 s1 r1 dps => ⟨?_, fun p o hp ho => ?_⟩⟩
    · rw [dpa_len dps]
      exact szOk_le hz
    · exact k _ _ (s1.trans (.grow (same_new hp))) (r1.grow (same_new hp)) (dp_newT r1.ne0 hp ho dps)
  · cases hm
/-- a new list; new lists as data -/
def mSz (m : ML) : ML := fun e => (m e).bind fun r => if szOk r.1.length = true then some r else none
theorem jn_lst (h : PA X es (tAOf (X.fg tq) ms)) : PE X (.List es pos) (tNOf (X.fg tq) (mSz ms)) := by
  refine PE.imp (pe_lst h) ?_
  rintro σ H Q ⟨G, e, d, e', rel, hm, k⟩
  obtain ⟨⟨d1, e1⟩, h1, hm⟩ := Option.bind_eq_some_iff.mp hm
  simp only at hm
  split at hm
  · rename_i hz
    cases hm
    refine ⟨G, e, _, _, rel, h1, fun vs H1 s1 r1 dps => ⟨?_, fun p hp => ?_⟩⟩
    · rw [dpa_len dps]
      exact szOk_le hz
    · exact k p vs _ (s1.trans (.grow (same_new hp))) (r1.foreign hp) (s1.there p hp) upd_same (dpa_mono (vis_foreign hp) dps)
  · cases hm
def mNew (m : ML) : ME := fun e => (m e).map fun r => (.list r.1, r.2)
theorem je_new (h : PE X a (tNOf (X.fg tq) ms)) : PE X a (tOf (X.fg tq) (mNew ms)) := by
  refine PE.imp h ?_
  rintro σ H Q ⟨G, e, d, e', rel, hm, k⟩
  obtain ⟨⟨d1, e1⟩, h1, hm⟩ := Option.map_eq_some_iff.mp hm
  obtain ⟨rfl, rfl⟩ := Prod.mk.inj hm
  refine ⟨G, e, d1, _, rel, h1, fun p xs H1 s1 r1 hp hx dps => k _ H1 s1 r1.tame ?_⟩
  exact .lst (.of (cut_of (fun w => w.elim (fun g => rel.frn p g hp) r1.notOwn) hx)) (dpa_mono vis_tame dps)
theorem je_lst (h : PA X es (tAOf (X.fg tq) ms)) : PE X (.List es pos) (tOf (X.fg tq) (mNew (mSz ms))) := je_new (jn_lst h)

/-! ### built-in functions of data -/
def DoesC (K : Frag) (r : List V → Hp → VK → Prop) (f : List D → Option D) : Prop := ∀ (F : Addr → Prop) (H : Hp) (vs : List V) (ds : List D) (c : D) (Q : VK), (∀ z, F z → H z ≠ none) → DpAll K (cut H F) vs ds → f ds = some c →
  (∀ v H2, Same H H2 → Dp K (cut H2 F) v c → Q v H2) → r vs H Q
def mCB (f : List D → Option D) (m : ML) : ME := fun e => (m e).bind fun r => (f r.1).map fun z => (z, r.2)
theorem cb_of {r : List V → Hp → VK → Prop} {f : List D → Option D} (hd : DoesC K r f) : ∀ σ H Q, tOf K (mCB f ms) σ H Q → tCB r (tAOf K ms) σ H Q := by
  rintro σ H Q ⟨G, e, d, e', rel, hm, k⟩
  obtain ⟨⟨d1, e1⟩, h1, hm⟩ := Option.bind_eq_some_iff.mp hm
  obtain ⟨z, h2, hm⟩ := Option.map_eq_some_iff.mp hm
  obtain ⟨rfl, rfl⟩ := Prod.mk.inj hm
  refine ⟨G, e, d1, _, rel, h1, fun vs H1 s1 r1 dps => ?_⟩
  exact hd _ H1 vs d1 _ Q r1.ne0 dps h2 fun v H2 sm dp => k v H2 (s1.trans (.grow sm)) (r1.grow sm) dp
theorem je_callB {x : Str} {p : Pos} {id : String} {r : List V → Hp → VK → Prop} {f : List D → Option D} (hc : CallR X (.builtin id) r) (hd : DoesC (X.fg tq) r f) (hg : Gl X x) (hm : X.mg x = none) (hv : bootBuiltins x = some (.builtin id)) (ha : PA X (a :: es) (tAOf (X.fg tq) ms))
    (hn : x ≠ "__name__" := by decide) (hdb : (x == ("__debug__" : Str)) = false := by decide) (he : starEach (a :: es) X.env = (false, eval a X.env) :: starEach es X.env := by rfl) (hpl : (backTo pos (starEach es X.env)).any (·.1) = false := by rfl) :
    PE X (.Call (.Name x p) (a :: es) [] pos) (tOf (X.fg tq) (mCB f ms)) := PE.imp (pe_callB hc hg hm hv ha hn hdb he hpl) (cb_of hd)
theorem je_callTy {x : Str} {p : Pos} {T : String} {r : List V → Hp → VK → Prop} {f : List D → Option D} (hc : CallR X (.type T) r) (hd : DoesC (X.fg tq) r f) (hg : Gl X x) (hm : X.mg x = none) (hv : bootBuiltins x = some (.type T)) (ha : PA X (a :: es) (tAOf (X.fg tq) ms))
    (hn : x ≠ "__name__" := by decide) (hdb : (x == ("__debug__" : Str)) = false := by decide) (he : starEach (a :: es) X.env = (false, eval a X.env) :: starEach es X.env := by rfl) (hpl : (backTo pos (starEach es X.env)).any (·.1) = false := by rfl) :
    PE X (.Call (.Name x p) (a :: es) [] pos) (tOf (X.fg tq) (mCB f ms)) := PE.imp (pe_callTy hc hg hm hv ha hn hdb he hpl) (cb_of hd)
theorem dpa_one {H : Hp} {vs : List V} {d : D} (h : DpAll K H vs [d]) : ∃ v, vs = [v] ∧ Dp K H v d := by
  cases h with
  | cons h t =>
    cases t
    exact ⟨_, rfl, h⟩
/-- len -/
def fLen : List D → Option D
  | [.str s] => if szOk s.length = true then some (.int s.length) else none
  | [.list ds] => some (.int ds.length)
  | [.tuple ds] => some (.int ds.length)
  | _ => none
theorem does_len : DoesC K (fun xs H Q => ∃ x n, xs = [x] ∧ LenV K x H n ∧ Q (.int n) H) fLen := by
  intro F H vs ds c Q hF ha hf k
  unfold fLen at hf
  split at hf
  · split at hf
    · rename_i hz
      cases hf
      obtain ⟨v, rfl, h⟩ := dpa_one ha
      cases h
      exact ⟨_, _, rfl, ⟨szOk_le hz, rfl⟩, k _ _ (.refl _) (.int _)⟩
    · cases hf
  · cases hf
    obtain ⟨v, rfl, h⟩ := dpa_one ha
    obtain ⟨l, xs, rfl, h1, t1⟩ := dp_list h
    exact ⟨_, _, rfl, .inl ⟨_, same_cut.seq h1, (dpa_len t1).symm⟩, k _ _ (.refl _) (.int _)⟩
  · cases hf
    obtain ⟨v, rfl, h⟩ := dpa_one ha
    obtain ⟨l, xs, rfl, h1, t1⟩ := dp_tup h
    exact ⟨_, _, rfl, .inr ⟨_, same_tup same_cut h1, (dpa_len t1).symm⟩, k _ _ (.refl _) (.int _)⟩
  · cases hf
theorem je_len {p : Pos} (hg : Gl X "len") (hm : X.mg "len" = none) (ha : PE X a (tOf (X.fg tq) ma)) (he : starEach [a] X.env = (false, eval a X.env) :: starEach [] X.env := by rfl) (hpl : (backTo pos (starEach [] X.env)).any (·.1) = false := by rfl) :
    PE X (.Call (.Name "len" p) [a] [] pos) (tOf (X.fg tq) (mCB fLen (mCons ma mNil))) := je_callB call_len does_len hg hm PySem.boot_len (ja_cons ha ja_nil he) (by decide) (by decide) he hpl
/-- len of a list of one's own -/
def mLenOwn (i : Nat) : ME := fun e => match e[i]? with
  | some (some (.own _ ds)) => some (.int ds.length, e)
  | _ => none
theorem je_lenOwn (i : Nat) {x : Str} {p q : Pos} (hg : Gl X "len") (hm : X.mg "len" = none) (hN : X.N[i]? = some x := by rfl) (hv : Vis X.env.scope x := by first | exact Or.inl rfl | exact Or.inr (Or.inl rfl) | exact Or.inr (Or.inr rfl))
    (hd : (x == ("__debug__" : Str)) = false := by decide) (hcd : (x == ("__classdict__" : Str)) = false := by decide) (he : starEach [.Name x q] X.env = (false, eval (.Name x q) X.env) :: starEach [] X.env := by rfl) (hpl : (backTo pos (starEach [] X.env)).any (·.1) = false := by rfl) :
    PE X (.Call (.Name "len" p) [.Name x q] [] pos) (tOf (X.fg tq) (mLenOwn i)) := by
  refine PE.imp (pe_callB call_len hg hm PySem.boot_len (pa_cons (pe_var hN hv hd hcd) pa_nil he) (by decide) (by decide) he hpl) ?_
  rintro σ H Q ⟨G, e, d, e', rel, hm, k⟩
  unfold mLenOwn at hm
  split at hm
  · rename_i b ds h
    cases hm
    obtain ⟨p', xs, s1, hx, hd2, _⟩ := rel.own i _ _ h
    exact ⟨.ref p', s1, _, _, rfl, .inl ⟨_, .of hx, (dpa_len hd2).symm⟩, k _ _ .refl rel (.int _)⟩
  · cases hm
/-- all, any of a list of truths -/
def bools : List D → Option (List Bool)
  | [] => some []
  | .bool b :: r => (bools r).map (b :: ·)
  | _ :: _ => none
theorem dpa_bools {H : Hp} : ∀ {ds : List D} {vs : List V} {bs : List Bool}, DpAll K H vs ds → bools ds = some bs → vs = bs.map V.bl
  | [], _, _, .nil, h => by cases h; rfl
  | d :: ds, _, bs, .cons h t, e => by
    unfold bools at e
    split at e
    · rename_i h'
      cases h'
    · rename_i b r h'
      cases h'
      obtain ⟨bs', h1, h2⟩ := Option.map_eq_some_iff.mp e
      subst h2
      cases h
      rw [dpa_bools t h1]
      rfl
    · cases e
def fAll : List D → Option D
  | [.list ds] => (bools ds).map fun bs => .bool (bs.all id)
  | _ => none
def fAny : List D → Option D
  | [.list ds] => (bools ds).map fun bs => .bool (bs.any id)
  | _ => none
theorem does_all : DoesC K (rAll K) fAll := by
  intro F H vs ds c Q hF ha hf k
  unfold fAll at hf
  split at hf
  · obtain ⟨bs, h1, h2⟩ := Option.map_eq_some_iff.mp hf
    subst h2
    obtain ⟨v, rfl, h⟩ := dpa_one ha
    obtain ⟨l, xs, rfl, q1, t1⟩ := dp_list h
    have ex := dpa_bools t1 h1
    subst ex
    exact ⟨l, bs, rfl, same_cut.seq q1, k _ _ (.refl _) (.bl _)⟩
  · cases hf
theorem does_any : DoesC K (rAny K) fAny := by
  intro F H vs ds c Q hF ha hf k
  unfold fAny at hf
  split at hf
  · obtain ⟨bs, h1, h2⟩ := Option.map_eq_some_iff.mp hf
    subst h2
    obtain ⟨v, rfl, h⟩ := dpa_one ha
    obtain ⟨l, xs, rfl, q1, t1⟩ := dp_list h
    have ex := dpa_bools t1 h1
    subst ex
    exact ⟨l, bs, rfl, same_cut.seq q1, k _ _ (.refl _) (.bl _)⟩
  · cases hf
theorem boot_all' : bootBuiltins "all" = some (.builtin "all") := by decide +kernel
theorem boot_any' : bootBuiltins "any" = some (.builtin "any") := by decide +kernel
theorem je_all {p : Pos} (hc : X.calm = true) (hg : Gl X "all") (hm : X.mg "all" = none) (ha : PE X a (tOf (X.fg tq) ma)) (he : starEach [a] X.env = (false, eval a X.env) :: starEach [] X.env := by rfl) (hpl : (backTo pos (starEach [] X.env)).any (·.1) = false := by rfl) :
    PE X (.Call (.Name "all" p) [a] [] pos) (tOf (X.fg tq) (mCB fAll (mCons ma mNil))) := je_callB (cr_all hc) does_all hg hm boot_all' (ja_cons ha ja_nil he) (by decide) (by decide) he hpl
theorem je_any {p : Pos} (hc : X.calm = true) (hg : Gl X "any") (hm : X.mg "any" = none) (ha : PE X a (tOf (X.fg tq) ma)) (he : starEach [a] X.env = (false, eval a X.env) :: starEach [] X.env := by rfl) (hpl : (backTo pos (starEach [] X.env)).any (·.1) = false := by rfl) :
    PE X (.Call (.Name "any" p) [a] [] pos) (tOf (X.fg tq) (mCB fAny (mCons ma mNil))) := je_callB (cr_any hc) does_any hg hm boot_any' (ja_cons ha ja_nil he) (by decide) (by decide) he hpl
/-- tuple(x) -/
def fTuple : List D → Option D
  | [.list ds] => some (.tuple ds)
  | [.tuple ds] => some (.tuple ds)
  | _ => none
theorem does_tuple : DoesC K (rTupS K) fTuple := by
  intro F H vs ds c Q hF ha hf k
  unfold fTuple at hf
  split at hf
  · cases hf
    obtain ⟨v, rfl, h⟩ := dpa_one ha
    obtain ⟨l, xs, rfl, q1, t1⟩ := dp_list h
    exact ⟨l, xs, rfl, .inl ⟨same_cut.seq q1, fun p o hp ho => k _ _ (same_new hp) (dp_newT hF hp ho t1)⟩⟩
  · cases hf
    obtain ⟨v, rfl, h⟩ := dpa_one ha
    have h' := h
    obtain ⟨l, xs, rfl, q1, t1⟩ := dp_tup h
    exact ⟨l, xs, rfl, .inr ⟨same_tup same_cut q1, k _ _ (.refl _) h'⟩⟩
  · cases hf
theorem boot_tuple' : bootBuiltins "tuple" = some (.type "tuple") := by decide +kernel
theorem boot_list' : bootBuiltins "list" = some (.type "list") := by decide +kernel
theorem boot_str' : bootBuiltins "str" = some (.type "str") := by decide +kernel
theorem boot_isi' : bootBuiltins "isinstance" = some (.builtin "isinstance") := by decide +kernel
theorem je_tuple {p : Pos} (hg : Gl X "tuple") (hm : X.mg "tuple" = none) (ha : PE X a (tOf (X.fg tq) ma)) (he : starEach [a] X.env = (false, eval a X.env) :: starEach [] X.env := by rfl) (hpl : (backTo pos (starEach [] X.env)).any (·.1) = false := by rfl) :
    PE X (.Call (.Name "tuple" p) [a] [] pos) (tOf (X.fg tq) (mCB fTuple (mCons ma mNil))) := je_callTy cr_tupS does_tuple hg hm boot_tuple' (ja_cons ha ja_nil he) (by decide) (by decide) he hpl
/-- str(n), str of a truth -/
def fStr : List D → Option D
  | [.int i] => if i.natAbs.log2 < 1920 then some (.str (toString i)) else none
  | [.bool b] => some (.str (if b then "True" else "False"))
  | _ => none
theorem call_str_bool : CallR X (.type "str") (fun xs H Q => ∃ b : Bool, xs = [.bl b] ∧ Q (.str (if b then "True" else "False")) H) := by
  intro pins s σ H xs us Q I r h
  obtain ⟨b, rfl, q⟩ := h
  obtain ⟨u, rfl, rb⟩ := vals1 r
  cases rb
  exact PySem.P.str_of_bool ⟨.str _, H, I.tok _, ⟨_, rfl⟩, q⟩
theorem does_str : DoesC K (fun xs H Q => (∃ i : Int, xs = [.int i] ∧ i.natAbs.log2 < 1920 ∧ Q (.str (toString i)) H) ∨ ∃ b : Bool, xs = [.bl b] ∧ Q (.str (if b then "True" else "False")) H) fStr := by
  intro F H vs ds c Q hF ha hf k
  unfold fStr at hf
  split at hf
  · split at hf
    · rename_i hz
      cases hf
      obtain ⟨v, rfl, h⟩ := dpa_one ha
      cases h
      exact .inl ⟨_, rfl, hz, k _ _ (.refl _) (.str _)⟩
    · cases hf
  · cases hf
    obtain ⟨v, rfl, h⟩ := dpa_one ha
    cases h
    exact .inr ⟨_, rfl, k _ _ (.refl _) (.str _)⟩
  · cases hf
theorem je_strI {p : Pos} (hg : Gl X "str") (hm : X.mg "str" = none) (ha : PE X a (tOf (X.fg tq) ma)) (he : starEach [a] X.env = (false, eval a X.env) :: starEach [] X.env := by rfl) (hpl : (backTo pos (starEach [] X.env)).any (·.1) = false := by rfl) :
    PE X (.Call (.Name "str" p) [a] [] pos) (tOf (X.fg tq) (mCB fStr (mCons ma mNil))) := je_callTy (call_str_int.or call_str_bool) does_str hg hm boot_str' (ja_cons ha ja_nil he) (by decide) (by decide) he hpl
/-- list(x): a new list -/
def seqOf : D → Option (List D)
  | .list ds => some ds
  | .tuple ds => some ds
  | _ => none
def mListOf (a : ME) : ML := fun e => (a e).bind fun r => (seqOf r.1).map fun ds => (ds, r.2)
theorem jn_list {p : Pos} (hg : Gl X "list") (hm : X.mg "list" = none) (ha : PE X a (tOf (X.fg tq) ma)) (he : starEach [a] X.env = (false, eval a X.env) :: starEach [] X.env := by rfl) (hpl : (backTo pos (starEach [] X.env)).any (·.1) = false := by rfl) :
    PE X (.Call (.Name "list" p) [a] [] pos) (tNOf (X.fg tq) (mListOf ma)) := by
  refine PE.imp (pe_callTy call_list_of hg hm boot_list' (pa_cons ha pa_nil he) (by decide) (by decide) he hpl) ?_
  rintro σ H Q ⟨G, e, d, e', rel, hm, k⟩
  obtain ⟨⟨d1, e1⟩, h1, hm⟩ := Option.bind_eq_some_iff.mp hm
  obtain ⟨z, h2, hm⟩ := Option.map_eq_some_iff.mp hm
  obtain ⟨rfl, rfl⟩ := Prod.mk.inj hm
  refine ⟨G, e, d1, _, rel, h1, fun v H1 s1 r1 dp => ?_⟩
  have fin : ∀ (l : Addr) (xs : List V) (p : Addr), H1 p = none → DpAll (X.fg tq) (vis G σ _ H1) xs _ → Q (.ref p) (upd H1 p (.lst xs)) := fun l xs p hp t1 => by
    exact k p xs _ (s1.trans (.grow (same_new hp))) (r1.foreign hp) (s1.there p hp) upd_same (dpa_mono (vis_foreign hp) t1)
  simp only at h2
  unfold seqOf at h2
  split at h2
  · cases h2
    obtain ⟨l, xs, rfl, q1, t1⟩ := dp_list dp
    exact ⟨l, xs, rfl, .inl (same_cut.seq q1), fun p hp => fin l xs p hp t1⟩
  · cases h2
    obtain ⟨l, xs, rfl, q1, t1⟩ := dp_tup dp
    exact ⟨l, xs, rfl, .inr (same_tup same_cut q1), fun p hp => fin l xs p hp t1⟩
  · cases h2

/-! ### isinstance -/
def tyN : D → String
  | .none => "NoneType"
  | .bool _ => "bool"
  | .int _ => "int"
  | .str _ => "str"
  | .list _ => "list"
  | .tuple _ => "tuple"
  | .dict _ => "dict"
def isDc : D → Bool
  | .dict _ => true
  | _ => false
def kitD (d : D) (T : String) : Option Bool := match d with
  | .dict _ => none
  | d => kitB (tyN d) T
theorem kitD_some {d : D} {T : String} {b : Bool} (h : kitD d T = some b) : isDc d = false ∧ kitB (tyN d) T = some b := by
  cases d <;> first | exact ⟨rfl, h⟩ | cases h
theorem tyx_of {H : Hp} {v : V} {d : D} (h : Dp K H v d) (hd : isDc d = false) : TyX K H v (.type (tyN d)) := by
  cases h with
  | non => exact .base .non
  | bl b => exact .base (.bl b)
  | int i => exact .base (.int i)
  | str s => exact .base (.str s)
  | lst q t =>
    rcases q with (q | ⟨o, q⟩) | ⟨o, its, n, q, hc, _⟩
    · exact .base (.lst q)
    · exact .base (.frz q)
    · exact .kList q hc
  | tup q t =>
    obtain ⟨o, q, _⟩ := q
    exact .fTuple q
  | dk _ _ => cases hd
  | dn _ _ => cases hd
def mIsi (T : String) (a : ME) : ME := fun e => (a e).bind fun r => (kitD r.1 T).map fun b => (.bool b, r.2)
theorem je_isi {T : String} {x : Str} {p q : Pos} (hg : Gl X "isinstance") (hm : X.mg "isinstance" = none) (ha : PE X a (tOf (X.fg tq) ma)) (hgT : Gl X x) (hmT : X.mg x = none) (hvT : bootBuiltins x = some (.type T)) (hn : x ≠ "__name__" := by decide) (hd : (x == ("__debug__" : Str)) = false := by decide)
    (he : starEach [a, .Name x q] X.env = (false, eval a X.env) :: starEach [.Name x q] X.env := by rfl) (he2 : starEach [.Name x q] X.env = (false, eval (.Name x q) X.env) :: starEach [] X.env := by rfl) (hpl : (backTo pos (starEach [.Name x q] X.env)).any (·.1) = false := by rfl) :
    PE X (.Call (.Name "isinstance" p) [a, .Name x q] [] pos) (tOf (X.fg tq) (mIsi T ma)) := by
  refine PE.imp (pe_callB call_isi hg hm boot_isi' (pa_cons ha (pa_cons (pe_bltn (v := .ty T) hgT hmT hvT rfl hn hd) pa_nil he2) he) (by decide) (by decide) he hpl) ?_
  rintro σ H Q ⟨G, e, d, e', rel, hm, k⟩
  obtain ⟨⟨d1, e1⟩, h1, hm⟩ := Option.bind_eq_some_iff.mp hm
  obtain ⟨z, h2, hm⟩ := Option.map_eq_some_iff.mp hm
  obtain ⟨rfl, rfl⟩ := Prod.mk.inj hm
  obtain ⟨nd, h2⟩ := kitD_some h2
  refine ⟨G, e, d1, _, rel, h1, fun v H1 s1 r1 dp => ?_⟩
  exact ⟨v, .ty T, _, _, z, rfl, .ty T, tyx_of (dp_mono same_cut dp) nd, kit_ty h2, k _ _ s1 r1 (.bl _)⟩
/-- isinstance(x, (S, T)) -/
def kitB2 (t S T : String) : Option Bool := match kitB t S with
  | some true => some true
  | some false => kitB t T
  | none => none
def kitD2 (d : D) (S T : String) : Option Bool := match d with
  | .dict _ => none
  | d => kitB2 (tyN d) S T
theorem kitD2_some {d : D} {S T : String} {b : Bool} (h : kitD2 d S T = some b) : isDc d = false ∧ kitB2 (tyN d) S T = some b := by
  cases d <;> first | exact ⟨rfl, h⟩ | cases h
def mIsi2 (S T : String) (a : ME) : ME := fun e => (a e).bind fun r => (kitD2 r.1 S T).map fun b => (.bool b, r.2)
theorem je_isi2 {S T : String} {x y : Str} {p q q2 q3 : Pos} {kk : Nat} (hg : Gl X "isinstance") (hm : X.mg "isinstance" = none) (ha : PE X a (tOf (X.fg tq) ma)) (hgS : Gl X x) (hmS : X.mg x = none) (hvS : bootBuiltins x = some (.type S)) (hgT : Gl X y) (hmT : X.mg y = none) (hvT : bootBuiltins y = some (.type T))
    (hn : x ≠ "__name__" := by decide) (hd : (x == ("__debug__" : Str)) = false := by decide) (hn2 : y ≠ "__name__" := by decide) (hd2 : (y == ("__debug__" : Str)) = false := by decide)
    (he : starEach [a, .Tuple [.Name x q, .Name y q2] kk q3] X.env = (false, eval a X.env) :: starEach [.Tuple [.Name x q, .Name y q2] kk q3] X.env := by rfl) (he2 : starEach [.Tuple [.Name x q, .Name y q2] kk q3] X.env = (false, eval (.Tuple [.Name x q, .Name y q2] kk q3) X.env) :: starEach [] X.env := by rfl)
    (he3 : starEach [.Name x q, .Name y q2] X.env = (false, eval (.Name x q) X.env) :: starEach [.Name y q2] X.env := by rfl) (he4 : starEach [.Name y q2] X.env = (false, eval (.Name y q2) X.env) :: starEach [] X.env := by rfl)
    (hpl : (backTo pos (starEach [.Tuple [.Name x q, .Name y q2] kk q3] X.env)).any (·.1) = false := by rfl) :
    PE X (.Call (.Name "isinstance" p) [a, .Tuple [.Name x q, .Name y q2] kk q3] [] pos) (tOf (X.fg tq) (mIsi2 S T ma)) := by
  refine PE.imp (pe_callB call_isiT hg hm boot_isi' (pa_cons ha (pa_cons (pe_tup (pa_cons (pe_bltn (v := .ty S) hgS hmS hvS rfl hn hd) (pa_cons (pe_bltn (v := .ty T) hgT hmT hvT rfl hn2 hd2) pa_nil he4) he3)) pa_nil he2) he) (by decide) (by decide) he hpl) ?_
  rintro σ H Q ⟨G, e, d, e', rel, hm, k⟩
  obtain ⟨⟨d1, e1⟩, h1, hm⟩ := Option.bind_eq_some_iff.mp hm
  obtain ⟨z, h2, hm⟩ := Option.map_eq_some_iff.mp hm
  obtain ⟨rfl, rfl⟩ := Prod.mk.inj hm
  obtain ⟨nd, h2⟩ := kitD2_some h2
  refine ⟨G, e, d1, _, rel, h1, fun v H1 s1 r1 dp => ⟨by show 2 ≤ sizeLine; decide, fun t ht => ?_⟩⟩
  refine ⟨v, t, [.ty S, .ty T], _, [.type S, .type T], z, rfl, upd_same, .cons (.ty S) (.cons (.ty T) .nil), tyx_of (dp_mono (same_cut.trans (same_new ht)) dp) nd, ?_, k _ _ (s1.trans (.grow (same_new ht))) (r1.grow (same_new ht)) (.bl _)⟩
  unfold kitB2 at h2
  split at h2
  · rename_i hb
    cases h2
    exact kitAny_cons (kit_ty hb) (fun q => nomatch q) (fun _ => rfl)
  · rename_i hb
    refine kitAny_cons (kit_ty hb) (fun _ => ?_) (fun q => nomatch q)
    cases z with
    | true => exact kitAny_cons (kit_ty h2) (fun q => nomatch q) (fun _ => rfl)
    | false => exact kitAny_cons (kit_ty h2) (fun _ => kitAny_nil) (fun q => nomatch q)
  · cases h2
end
end PB

set_option maxHeartbeats 4000000
namespace PB
open PySem PySem.Spec PyProof.Rows L2

/-! ### what is walked -/
/-- data; or (fl) a tuple of data that is looked at but not held -/
def DpF (fl : Bool) (K : Frag) (H : Hp) (v : V) (d : D) : Prop := Dp K H v d ∨ (fl = true ∧ ∃ a xs ds, v = .ref a ∧ d = .tuple ds ∧ SqT K H a xs ∧ DpAll K H xs ds)
theorem DpF.mono {fl : Bool} {K : Frag} {H H' : Hp} {v : V} {d : D} (s : Same H H') (h : DpF fl K H v d) : DpF fl K H' v d := by
  rcases h with h | ⟨z, a, xs, ds, h1, h2, h3, h4⟩
  · exact .inl (dp_mono s h)
  · exact .inr ⟨z, a, xs, ds, h1, h2, same_tup s h3, dpa_mono s h4⟩
theorem DpF.tup {fl : Bool} {K : Frag} {H : Hp} {v : V} {ds : List D} (h : DpF fl K H v (.tuple ds)) : ∃ a xs, v = .ref a ∧ SqT K H a xs ∧ DpAll K H xs ds := by
  rcases h with h | ⟨_, a, xs, ds', h1, h2, h3, h4⟩
  · exact dp_tup h
  · cases h2
    exact ⟨a, xs, h1, h3, h4⟩
theorem DpF.hold {K : Frag} {H : Hp} {v : V} {d : D} (h : DpF false K H v d) : Dp K H v d := by
  rcases h with h | ⟨z, _⟩
  · exact h
  · cases z
structure WalkD (K : Frag) (fl : Bool) (J : It) (Hv : Hp) (ds : List D) : Prop where
  go : ∀ i H, Same Hv H → i < ds.length → J.go i H
  stop : ∀ i H, Same Hv H → ds.length ≤ i → J.stop i H
  yld : ∀ (i : Nat) (H : Hp) (F : Addr → Prop) (x : V) (H' : Hp) (d : D), Same Hv (cut H F) → (∀ a, F a → H a ≠ none) → ds[i]? = some d → J.yld i H x H' → Same H H' ∧ DpF fl K (cut H' F) x d
def tIOf (K : Frag) (fl : Bool) (m : ML) : TI := fun σ H R => ∃ G e ds e', Rel K G σ H e ∧ m e = some (ds, e') ∧ ∀ J H', Step σ e H σ e' H' → Rel K G σ H' e' → WalkD K fl J (vis G σ e' H') ds → R J H'
section
variable {K : Frag} {Hv : Hp} {a : Addr} {xs : List V} {ds : List D}
theorem walk_list (h : SqL K Hv a xs) (t : DpAll K Hv xs ds) : WalkD K false (Itl K a) Hv ds where
  go := fun i H s hi => by
    rw [← dpa_len t] at hi
    exact ⟨xs, xs[i], s.seq h, List.getElem?_eq_getElem hi⟩
  stop := fun i H s hi => ⟨xs, s.seq h, by rw [dpa_len t]; exact hi⟩
  yld := fun i H F x H' d s hF hd y => by
    obtain ⟨rfl, y⟩ := y
    obtain ⟨u, h1, h2⟩ := dpa_get t hd
    have e := y xs (same_cut.seq (s.seq h))
    rw [h1] at e
    cases e
    exact ⟨.refl _, .inl (dp_mono s h2)⟩
theorem walk_tup (h : SqT K Hv a xs) (t : DpAll K Hv xs ds) : WalkD K false (Itt K a) Hv ds where
  go := fun i H s hi => by
    rw [← dpa_len t] at hi
    exact ⟨xs, xs[i], same_tup s h, List.getElem?_eq_getElem hi⟩
  stop := fun i H s hi => ⟨xs, same_tup s h, by rw [dpa_len t]; exact hi⟩
  yld := fun i H F x H' d s hF hd y => by
    obtain ⟨rfl, y⟩ := y
    obtain ⟨u, h1, h2⟩ := dpa_get t hd
    have e := y xs (same_tup same_cut (same_tup s h))
    rw [h1] at e
    cases e
    exact ⟨.refl _, .inl (dp_mono s h2)⟩
def signs (s : Str) : List D := s.cps.toList.map fun c => .str ⟨#[c]⟩
theorem walk_str {s : Str} : WalkD K false (Its s) Hv (signs s) where
  go := fun i H _ hi => by
    unfold signs at hi
    rw [List.length_map, Array.length_toList] at hi
    exact hi
  stop := fun i H _ hi => by
    unfold signs at hi
    rw [List.length_map, Array.length_toList] at hi
    exact hi
  yld := fun i H F x H' d s hF hd y => by
    obtain ⟨rfl, c, h1, rfl⟩ := y
    unfold signs at hd
    rw [List.getElem?_map, Array.getElem?_toList, h1] at hd
    cases hd
    exact ⟨.refl _, .inl (.str _)⟩
def rangeD (lo : Int) (n : Nat) : List D := (List.range n).map fun i => .int (lo + (i : Nat))
theorem rangeD_len (lo : Int) (n : Nat) : (rangeD lo n).length = n := by
  unfold rangeD
  rw [List.length_map, List.length_range]
theorem walk_range {lo : Int} {n : Nat} : WalkD K false (Itr lo n) Hv (rangeD lo n) where
  go := fun i H _ hi => by rw [rangeD_len] at hi; exact hi
  stop := fun i H _ hi => by rw [rangeD_len] at hi; exact hi
  yld := fun i H F x H' d s hF hd y => by
    obtain ⟨rfl, rfl⟩ := y
    have hi := (List.getElem?_eq_some_iff.mp hd).1
    rw [rangeD_len] at hi
    unfold rangeD at hd
    rw [List.getElem?_map, List.getElem?_range hi] at hd
    cases hd
    exact ⟨.refl _, .inl (.int _)⟩
def zipD : List D → List D → List D
  | a :: r, b :: s => .tuple [a, b] :: zipD r s
  | _, _ => []
theorem zipD_get : ∀ {as bs : List D} {i : Nat} {d : D}, (zipD as bs)[i]? = some d → ∃ a b, as[i]? = some a ∧ bs[i]? = some b ∧ d = .tuple [a, b]
  | [], _, _, _, h => by simp [zipD] at h
  | _ :: _, [], _, _, h => by simp [zipD] at h
  | a :: r, b :: s, 0, d, h => by
    have e : PyData.tuple [a, b] = d := Option.some.inj h
    exact ⟨a, b, rfl, rfl, e.symm⟩
  | a :: r, b :: s, i + 1, d, h => by
    have h' : (zipD r s)[i]? = some d := h
    obtain ⟨x, y, h1, h2, h3⟩ := zipD_get h'
    exact ⟨x, y, h1, h2, h3⟩
theorem zipD_len : ∀ (as bs : List D), (zipD as bs).length = min as.length bs.length
  | [], _ => by simp [zipD]
  | _ :: _, [] => by simp [zipD]
  | a :: r, b :: s => by
    show (zipD r s).length + 1 = _
    rw [zipD_len r s]
    simp only [List.length_cons]
    omega
theorem pair_new {H : Hp} {F : Addr → Prop} {T : Addr} {x y : V} {a b : D} (hF : ∀ z, F z → H z ≠ none) (hT : H T = none) (h1 : Dp K (cut H F) x a) (h2 : Dp K (cut H F) y b) : DpF true K (cut (upd H T (.tup [x, y])) F) (.ref T) (.tuple [a, b]) :=
  .inr ⟨rfl, T, [x, y], _, rfl, rfl, .of (cut_of (fun w => hF T w hT) upd_same), dpa_mono (same_cuts (same_new hT)) (.cons h1 (.cons h2 .nil))⟩
theorem walk_zip {b : Addr} {ys : List V} {es : List D} (h : SqL K Hv a xs) (t : DpAll K Hv xs ds) (h2 : SqL K Hv b ys) (t2 : DpAll K Hv ys es) : WalkD K true (Itz K a b) Hv (zipD ds es) where
  go := fun i H s hi => by
    rw [zipD_len, ← dpa_len t, ← dpa_len t2] at hi
    exact ⟨xs, ys, xs[i]'(by omega), ys[i]'(by omega), s.seq h, s.seq h2, List.getElem?_eq_getElem _, List.getElem?_eq_getElem _⟩
  stop := fun i H s hi => by
    rw [zipD_len, ← dpa_len t, ← dpa_len t2] at hi
    exact ⟨xs, ys, s.seq h, s.seq h2, by omega⟩
  yld := fun i H F x H' d s hF hd y => by
    obtain ⟨T, x1, x2, rfl, hT, rfl, y1, y2⟩ := y
    obtain ⟨d1, d2, e1, e2, rfl⟩ := zipD_get hd
    obtain ⟨u1, q1, p1⟩ := dpa_get t e1
    obtain ⟨u2, q2, p2⟩ := dpa_get t2 e2
    have z1 := y1 xs (same_cut.seq (s.seq h))
    have z2 := y2 ys (same_cut.seq (s.seq h2))
    rw [q1] at z1
    rw [q2] at z2
    cases z1
    cases z2
    exact ⟨same_new hT, pair_new hF hT (dp_mono s p1) (dp_mono s p2)⟩
theorem walk_zipT {b : Addr} {ys : List V} {es : List D} (h : SqT K Hv a xs) (t : DpAll K Hv xs ds) (h2 : SqT K Hv b ys) (t2 : DpAll K Hv ys es) : WalkD K true (RZ.ItzT K a b) Hv (zipD ds es) where
  go := fun i H s hi => by
    rw [zipD_len, ← dpa_len t, ← dpa_len t2] at hi
    exact ⟨xs, ys, xs[i]'(by omega), ys[i]'(by omega), same_tup s h, same_tup s h2, List.getElem?_eq_getElem _, List.getElem?_eq_getElem _⟩
  stop := fun i H s hi => by
    rw [zipD_len, ← dpa_len t, ← dpa_len t2] at hi
    exact ⟨xs, ys, same_tup s h, same_tup s h2, by omega⟩
  yld := fun i H F x H' d s hF hd y => by
    obtain ⟨T, x1, x2, rfl, hT, rfl, y1, y2⟩ := y
    obtain ⟨d1, d2, e1, e2, rfl⟩ := zipD_get hd
    obtain ⟨u1, q1, p1⟩ := dpa_get t e1
    obtain ⟨u2, q2, p2⟩ := dpa_get t2 e2
    have z1 := y1 xs (same_tup same_cut (same_tup s h))
    have z2 := y2 ys (same_tup same_cut (same_tup s h2))
    rw [q1] at z1
    rw [q2] at z2
    cases z1
    cases z2
    exact ⟨same_new hT, pair_new hF hT (dp_mono s p1) (dp_mono s p2)⟩
def enumFrom (n : Nat) : List D → List D
  | [] => []
  | d :: r => .tuple [.int (n : Nat), d] :: enumFrom (n + 1) r
theorem enum_len : ∀ (n : Nat) (ds : List D), (enumFrom n ds).length = ds.length
  | _, [] => rfl
  | n, d :: r => by
    show (enumFrom (n + 1) r).length + 1 = _
    rw [enum_len (n + 1) r]
    rfl
theorem enum_get : ∀ {n : Nat} {ds : List D} {i : Nat} {d : D}, (enumFrom n ds)[i]? = some d → ∃ x, ds[i]? = some x ∧ d = .tuple [.int ((n + i : Nat) : Int), x]
  | _, [], _, _, h => by simp [enumFrom] at h
  | n, x :: r, 0, d, h => by
    have e : PyData.tuple [.int (n : Nat), x] = d := Option.some.inj h
    exact ⟨x, rfl, e.symm⟩
  | n, x :: r, i + 1, d, h => by
    have h' : (enumFrom (n + 1) r)[i]? = some d := h
    obtain ⟨y, h1, h2⟩ := enum_get h'
    exact ⟨y, h1, by rw [h2, Nat.add_right_comm]; rfl⟩
theorem walk_enum (h : SqL K Hv a xs) (t : DpAll K Hv xs ds) : WalkD K true (Ite K a) Hv (enumFrom 0 ds) where
  go := fun i H s hi => by
    rw [enum_len, ← dpa_len t] at hi
    exact ⟨xs, xs[i], s.seq h, List.getElem?_eq_getElem hi⟩
  stop := fun i H s hi => by
    rw [enum_len, ← dpa_len t] at hi
    exact ⟨xs, s.seq h, hi⟩
  yld := fun i H F x H' d s hF hd y => by
    obtain ⟨T, x1, rfl, hT, rfl, y1⟩ := y
    obtain ⟨d1, e1, rfl⟩ := enum_get hd
    obtain ⟨u1, q1, p1⟩ := dpa_get t e1
    have z1 := y1 xs (same_cut.seq (s.seq h))
    rw [q1] at z1
    cases z1
    rw [Nat.zero_add]
    exact ⟨same_new hT, pair_new hF hT (.int _) (dp_mono s p1)⟩
end
section
variable {K : Frag} {X : Cx} {tg a b : Expr} {ma mb : ME} {ms : ML} {pos p : Pos}
/-- list, tuple, text -/
def iAny (K : PySem.W.Frag) (te : TE) : TI := fun σ H R => te σ H fun x H1 => (∃ a, x = .ref a ∧ (∃ xs, SqL K H1 a xs) ∧ R (Itl K a) H1) ∨ (∃ a, x = .ref a ∧ (∃ xs, SqT K H1 a xs) ∧ R (Itt K a) H1) ∨ ∃ s, x = .str s ∧ R (Its s) H1
theorem pi_any {te : TE} (he : PE X a te) : PI X tg a (iAny X.K te) := by
  refine ⟨fun pins s σ H R I h => ?_⟩
  refine thn (he.run pins s σ H _ I h) fun v s1 ⟨x, H1, I1, r1, q1⟩ => ?_
  rcases q1 with ⟨a, rfl, ⟨xs, hq⟩, q⟩ | ⟨a, rfl, ⟨xs, hq⟩, q⟩ | ⟨z, rfl, q⟩
  · cases r1
    obtain ⟨its, rv, pl, hz⟩ := I1.list hq
    refine wpAny_pyIter_list pl.isList ?_
    refine ⟨s1.heap.objs.size, [s1.heap.objs.size], _, _, H1, rfl, I1.kept (t' := s1.toks) fun b o e => Heap.get?_push_of_some _ e, turn_list a _, ⟨_, Heap.get?_push_size _ rfl, rfl, rfl⟩, fun b hb => ?_, q⟩
    have e : b = s1.heap.objs.size := by simpa using hb
    subst e
    exact I1.fpOk (Nat.le_refl _) (I1.hok.fresh (Nat.le_refl _))
  · cases r1
    obtain ⟨its, rv, pl, hz⟩ := I1.tuple hq
    refine wpAny_pyIter_tuple (show s1.heap.IsTuple a its.toArray from pl) ?_
    refine ⟨s1.heap.objs.size, [s1.heap.objs.size], _, _, H1, rfl, I1.kept (t' := s1.toks) fun b o e => Heap.get?_push_of_some _ e, turn_tuple a _, ⟨_, Heap.get?_push_size _ rfl, rfl, rfl⟩, fun b hb => ?_, q⟩
    have e : b = s1.heap.objs.size := by simpa using hb
    subst e
    exact I1.fpOk (Nat.le_refl _) (I1.hok.fresh (Nat.le_refl _))
  · obtain ⟨t, rfl⟩ := r1
    cases ha : z.cps.all (· < 128)
    · exact wpAny_pyIter_wide ha (pi_one (tk := s1.toks) I1 _ (turn_str _ z t "str_iterator" (.inr rfl)) ⟨_, Heap.get?_push_size _ rfl, rfl, rfl⟩ q)
    · exact wpAny_pyIter_ascii ha (pi_one (tk := s1.toks) I1 _ (turn_str _ z t "str_ascii_iterator" (.inl rfl)) ⟨_, Heap.get?_push_size _ rfl, rfl, rfl⟩ q)
def itemsOf : D → Option (List D)
  | .list ds => some ds
  | .tuple ds => some ds
  | .str s => some (signs s)
  | _ => none
def mIt (a : ME) : ML := fun e => (a e).bind fun r => (itemsOf r.1).map fun ds => (ds, r.2)
theorem ji_any (ha : PE X a (tOf (X.fg tq) ma)) : PI X tg a (tIOf (X.fg tq) false (mIt ma)) := by
  refine PI.imp (pi_any ha) ?_
  rintro σ H Q ⟨G, e, d, e', rel, hm, k⟩
  obtain ⟨⟨d1, e1⟩, h1, hm⟩ := Option.bind_eq_some_iff.mp hm
  obtain ⟨z, h2, hm⟩ := Option.map_eq_some_iff.mp hm
  obtain ⟨rfl, rfl⟩ := Prod.mk.inj hm
  refine ⟨G, e, d1, _, rel, h1, fun v H1 s1 r1 dp => ?_⟩
  simp only at h2
  unfold itemsOf at h2
  split at h2
  · cases h2
    obtain ⟨l, xs, rfl, q1, t1⟩ := dp_list dp
    exact .inl ⟨l, rfl, ⟨xs, same_cut.seq q1⟩, k _ H1 s1 r1 (walk_list q1 t1)⟩
  · cases h2
    obtain ⟨l, xs, rfl, q1, t1⟩ := dp_tup dp
    exact .inr (.inl ⟨l, rfl, ⟨xs, same_tup same_cut q1⟩, k _ H1 s1 r1 (walk_tup q1 t1)⟩)
  · cases h2
    cases dp
    exact .inr (.inr ⟨_, rfl, k _ H1 s1 r1 walk_str⟩)
  · cases h2
def mRange1 (a : ME) : ML := fun e => (a e).bind fun r => match r.1 with
  | .int n => if n ≤ 100000 ∧ -100000 ≤ n then some (rangeD 0 n.toNat, r.2) else none
  | _ => none
theorem ji_range1 (hg : Gl X "range") (hm : X.mg "range" = none) (ha : PE X a (tOf (X.fg tq) ma)) (he : starEach [a] X.env = (false, eval a X.env) :: starEach [] X.env := by rfl) (hs : starEach [a] X.env = [(false, eval a X.env)] := by rfl) :
    PI X tg (.Call (.Name "range" p) [a] [] pos) (tIOf (X.fg tq) false (mRange1 ma)) := by
  refine PI.imp (pi_range1 hg hm (pa_cons ha pa_nil he) hs) ?_
  rintro σ H Q ⟨G, e, d, e', rel, hm, k⟩
  obtain ⟨⟨d1, e1⟩, h1, hm⟩ := Option.bind_eq_some_iff.mp hm
  simp only at hm
  split at hm
  · split at hm
    · rename_i hn
      cases hm
      refine ⟨G, e, _, _, rel, h1, fun v H1 s1 r1 dp => ?_⟩
      cases dp
      exact ⟨_, rfl, by omega, by omega, k _ H1 s1 r1 walk_range⟩
    · cases hm
  · cases hm
def mRange2 (a b : ME) : ML := fun e => (a e).bind fun r => (b r.2).bind fun q => match r.1, q.1 with
  | .int m, .int n => if (n ≤ 100000 ∧ -100000 ≤ n) ∧ (m ≤ 100000 ∧ -100000 ≤ m) then some (rangeD m (n - m).toNat, q.2) else none
  | _, _ => none
theorem ji_range2 (hg : Gl X "range") (hm : X.mg "range" = none) (ha : PE X a (tOf (X.fg tq) ma)) (hb : PE X b (tOf (X.fg tq) mb)) (hs : starEach [a, b] X.env = [(false, eval a X.env), (false, eval b X.env)] := by rfl) (hs2 : starEach [b] X.env = [(false, eval b X.env)] := by rfl)
    (he : starEach [a, b] X.env = (false, eval a X.env) :: starEach [b] X.env := by rfl) (he2 : starEach [b] X.env = (false, eval b X.env) :: starEach [] X.env := by rfl) : PI X tg (.Call (.Name "range" p) [a, b] [] pos) (tIOf (X.fg tq) false (mRange2 ma mb)) := by
  refine PI.imp (pi_range2 hg hm (pa_cons ha (pa_cons hb pa_nil he2) he) hs hs2) ?_
  rintro σ H Q ⟨G, e, d, e', rel, hm, k⟩
  obtain ⟨⟨d1, e1⟩, h1, hm⟩ := Option.bind_eq_some_iff.mp hm
  obtain ⟨⟨d2, e2⟩, h2, hm⟩ := Option.bind_eq_some_iff.mp hm
  simp only at hm
  split at hm
  · split at hm
    · rename_i hn
      cases hm
      refine ⟨G, e, _, _, rel, h1, fun v H1 s1 r1 dp => ⟨G, e1, _, _, r1, h2, fun v2 H2 s2 r2 dp2 => ?_⟩⟩
      cases dp
      cases dp2
      exact ⟨_, _, rfl, by omega, k _ H2 (s1.trans s2) r2 walk_range⟩
    · cases hm
  · cases hm
def zipOf : D → D → Option (List D)
  | .list a, .list b => some (zipD a b)
  | .tuple a, .tuple b => some (zipD a b)
  | _, _ => none
def mZip (a b : ME) : ML := fun e => (a e).bind fun r => (b r.2).bind fun q => (zipOf r.1 q.1).map fun z => (z, q.2)
theorem ji_zip {elts : List Expr} {kk : Nat} {tpos : Pos} (hg : Gl X "zip") (hm : X.mg "zip" = none) (ha : PE X a (tOf (X.fg tq) ma)) (hb : PE X b (tOf (X.fg tq) mb)) (he : starEach [a, b] X.env = (false, eval a X.env) :: starEach [b] X.env := by rfl) (he2 : starEach [b] X.env = (false, eval b X.env) :: starEach [] X.env := by rfl)
    (hpl : (backTo pos (starEach [b] X.env)).any (·.1) = false := by rfl) : PI X (.Tuple elts kk tpos) (.Call (.Name "zip" p) [a, b] [] pos) (tIOf (X.fg tq) true (mZip ma mb)) := by
  refine PI.imp (RZ.pi_zipA hg hm (pa_cons ha (pa_cons hb pa_nil he2) he) he hpl) ?_
  rintro σ H Q ⟨G, e, d, e', rel, hm, k⟩
  obtain ⟨⟨d1, e1⟩, h1, hm⟩ := Option.bind_eq_some_iff.mp hm
  obtain ⟨⟨d2, e2⟩, h2, hm⟩ := Option.bind_eq_some_iff.mp hm
  obtain ⟨z, h3, hm⟩ := Option.map_eq_some_iff.mp hm
  obtain ⟨rfl, rfl⟩ := Prod.mk.inj hm
  refine ⟨G, e, _, _, rel, h1, fun v H1 s1 r1 dp => ⟨G, e1, _, _, r1, h2, fun v2 H2 s2 r2 dp2 => ?_⟩⟩
  have dp1 := dp_mono s2.vis dp
  simp only at h3
  unfold zipOf at h3
  split at h3
  · cases h3
    obtain ⟨l, xs, rfl, q1, t1⟩ := dp_list dp1
    obtain ⟨l2, ys, rfl, q2, t2⟩ := dp_list dp2
    exact ⟨l, l2, xs, ys, rfl, .inl ⟨same_cut.seq q1, same_cut.seq q2, k _ H2 (s1.trans s2) r2 (walk_zip q1 t1 q2 t2)⟩⟩
  · cases h3
    obtain ⟨l, xs, rfl, q1, t1⟩ := dp_tup dp1
    obtain ⟨l2, ys, rfl, q2, t2⟩ := dp_tup dp2
    exact ⟨l, l2, xs, ys, rfl, .inr ⟨same_tup same_cut q1, same_tup same_cut q2, k _ H2 (s1.trans s2) r2 (walk_zipT q1 t1 q2 t2)⟩⟩
  · cases h3
def mEnum (a : ME) : ML := fun e => (a e).bind fun r => match r.1 with
  | .list ds => some (enumFrom 0 ds, r.2)
  | _ => none
theorem ji_enum {elts : List Expr} {kk : Nat} {tpos : Pos} (hg : Gl X "enumerate") (hm : X.mg "enumerate" = none) (ha : PE X a (tOf (X.fg tq) ma)) (he : starEach [a] X.env = (false, eval a X.env) :: starEach [] X.env := by rfl) (hs : starEach [a] X.env = [(false, eval a X.env)] := by rfl) :
    PI X (.Tuple elts kk tpos) (.Call (.Name "enumerate" p) [a] [] pos) (tIOf (X.fg tq) true (mEnum ma)) := by
  refine PI.imp (pi_enum hg hm (pa_cons ha pa_nil he) hs) ?_
  rintro σ H Q ⟨G, e, d, e', rel, hm, k⟩
  obtain ⟨⟨d1, e1⟩, h1, hm⟩ := Option.bind_eq_some_iff.mp hm
  simp only at hm
  split at hm
  · cases hm
    refine ⟨G, e, _, _, rel, h1, fun v H1 s1 r1 dp => ?_⟩
    obtain ⟨l, xs, rfl, q1, t1⟩ := dp_list dp
    exact ⟨l, xs, rfl, same_cut.seq q1, k _ H1 s1 r1 (walk_enum q1 t1)⟩
  · cases hm
end

/-! ### targets -/
abbrev MG := D → Sg → Option Sg
def tGOf (K : Frag) (fl : Bool) (js : List Nat) (b : MG) : TG := fun x σ H R => ∃ G e d e', Rel K G σ H e ∧ DpF fl K (vis G σ e H) x d ∧ b d e = some e' ∧
  ∀ σ', (∀ i : Nat, i ∉ js → σ'[i]? = σ[i]?) → σ'.length = σ.length → Step σ e H σ' e' H → Rel K G σ' H e' → R σ' H
def isPar (o : Option (Option Sl)) : Bool := match o with
  | some (some (.own true _)) => true
  | _ => false
def bName (i : Nat) : MG := fun d e => if (decide (i < e.length) && !isPar e[i]?) = true then some (e.set i (some (.val d))) else none
section
variable {K : Frag} {G : Addr → Prop} {σ : SS} {H : Hp} {e : Sg} {X : Cx}
/-- a slot takes data -/
theorem put_val {i : Nat} {d : D} {v : V} (r : Rel K G σ H e) (hi : i < e.length) (hp : isPar e[i]? = false) (hv : Dp K (vis G σ e H) v d) :
    Step σ e H (σ.set i (some v)) (e.set i (some (.val d))) H ∧ Rel K G (σ.set i (some v)) H (e.set i (some (.val d))) := by
  have own' : ∀ a, Own (σ.set i (some v)) (e.set i (some (.val d))) a → ∃ j, j ≠ i ∧ ∃ b ds, e[j]? = some (some (.own b ds)) ∧ σ[j]? = some (some (.ref a)) := by
    intro a w
    obtain ⟨j, b, ds, h1, h2⟩ := w
    rw [List.getElem?_set] at h1 h2
    split at h1
    · cases h1
    · rename_i hne
      rw [if_neg hne] at h2
      exact ⟨j, fun q => hne q.symm, b, ds, h1, h2⟩
  have st : Step σ e H (σ.set i (some v)) (e.set i (some (.val d))) H := by
    refine ⟨fun _ _ h _ _ => h, fun a w => ?_, fun _ h => h, fun j ds hj => ?_⟩
    · obtain ⟨j, _, b, ds, q1, q2⟩ := own' a w
      exact .inl ⟨j, b, ds, q1, q2⟩
    · have hne : i ≠ j := fun q => by
        subst q
        rw [hj] at hp
        cases hp
      rw [List.getElem?_set, List.getElem?_set, if_neg hne, if_neg hne]
      exact ⟨rfl, ds, hj⟩
  refine ⟨st, ⟨by rw [List.length_set, List.length_set]; exact r.len, fun j d' hj => ?_, fun j b ds hj => ?_, fun j k b c d1 d2 q hj hk s1 s2 => ?_, r.frn, r.tab, fun j y hj => ?_⟩⟩
  · rw [List.getElem?_set] at hj ⊢
    split at hj
    · rename_i q
      subst q
      cases hj
      rw [if_pos rfl, if_pos (by rw [r.len]; exact hi)]
      exact ⟨v, rfl, dp_mono st.vis hv⟩
    · rename_i hne
      rw [if_neg hne]
      obtain ⟨v', q1, q2⟩ := r.val j d' hj
      exact ⟨v', q1, dp_mono st.vis q2⟩
  · rw [List.getElem?_set] at hj ⊢
    split at hj
    · cases hj
    · rename_i hne
      rw [if_neg hne]
      obtain ⟨p', xs', q1, q2, q3, q4⟩ := r.own j b ds hj
      exact ⟨p', xs', q1, q2, dpa_mono st.vis q3, q4⟩
  · rw [List.getElem?_set] at hj hk s1 s2
    split at hj
    · cases hj
    · rename_i n1
      split at hk
      · cases hk
      · rename_i n2
        rw [if_neg n1] at s1
        rw [if_neg n2] at s2
        exact r.sep j k b c d1 d2 q hj hk s1 s2
  · rw [List.getElem?_set] at hj ⊢
    split at hj
    · cases hj
    · rename_i hne
      rw [if_neg hne]
      exact r.fnr j y hj
theorem jg_name {i : Nat} {x : Str} {pos : Pos} (hN : X.N.Nodup) (hi : X.N[i]? = some x) (hx : Loc X.env.scope x) (hf : X.fn x = true ∨ X.env.scope.names.lookup x = some .local := by first | exact .inl rfl | exact .inr rfl | assumption) : PG X (.Name x pos) (tGOf (X.fg tq) false [i] (bName i)) := by
  refine PG.imp (pg_name hN hi hx hf) ?_
  rintro v σ H R ⟨G, e, d, e', rel, dp, hm, k⟩
  unfold bName at hm
  split at hm
  · rename_i hc
    cases hm
    simp only [Bool.and_eq_true, decide_eq_true_eq, Bool.not_eq_true'] at hc
    obtain ⟨st, r2⟩ := put_val rel hc.1 hc.2 dp.hold
    refine k _ (fun j hj => ?_) (by rw [List.length_set]) st r2
    rw [List.getElem?_set, if_neg (fun q => hj (by rw [← q]; exact List.mem_singleton.mpr rfl))]
  · cases hm
abbrev MGs := List D → Sg → Option Sg
def tGsOf (K : Frag) (js : List Nat) (b : MGs) : TGs := fun xs σ H R => ∃ G e ds e', Rel K G σ H e ∧ DpAll K (vis G σ e H) xs ds ∧ b ds e = some e' ∧
  ∀ σ', (∀ i : Nat, i ∉ js → σ'[i]? = σ[i]?) → σ'.length = σ.length → Step σ e H σ' e' H → Rel K G σ' H e' → R σ' H
theorem PGs.imp {es : List Expr} {t t' : TGs} (h : PGs X es t) (i : ∀ v σ H Q, t' v σ H Q → t v σ H Q) : PGs X es t' := ⟨fun pins s σ H vs us Q I r w => h.run pins s σ H vs us Q I r (i vs σ H Q w)⟩
def bNil : MGs := fun ds e => match ds with
  | [] => some e
  | _ => none
def bCons (b : MG) (bs : MGs) : MGs := fun ds e => match ds with
  | d :: r => (b d e).bind fun e1 => bs r e1
  | [] => none
theorem jgs_nil : PGs X [] (tGsOf (X.fg tq) [] bNil) := PGs.imp pgs_nil (by
  rintro v σ H R ⟨G, e, d, e', rel, dp, hm, k⟩
  unfold bNil at hm
  split at hm
  · cases hm
    cases dp
    exact ⟨rfl, k _ (fun _ _ => rfl) rfl .refl rel⟩
  · cases hm)
theorem jgs_cons {a : Expr} {es : List Expr} {js ks : List Nat} {b : MG} {bs : MGs} (h1 : PG X a (tGOf (X.fg tq) false js b)) (h2 : PGs X es (tGsOf (X.fg tq) ks bs)) (hs : (assignEach (a :: es) X.env).map (·.2) = assign a X.env :: (assignEach es X.env).map (·.2) := by rfl) :
    PGs X (a :: es) (tGsOf (X.fg tq) (js ++ ks) (bCons b bs)) := by
  refine PGs.imp (pgs_cons h1 h2 hs) ?_
  rintro v σ H R ⟨G, e, d, e', rel, dp, hm, k⟩
  unfold bCons at hm
  split at hm
  · obtain ⟨e1, q1, hm⟩ := Option.bind_eq_some_iff.mp hm
    cases dp with
    | cons hd tl =>
      refine ⟨_, _, rfl, G, e, _, e1, rel, .inl hd, q1, fun σ1 k1 l1 s1 r1 => ⟨G, e1, _, e', r1, dpa_mono s1.vis tl, hm, fun σ2 k2 l2 s2 r2 => ?_⟩⟩
      refine k σ2 (fun i hi => ?_) (l2.trans l1) (s1.trans s2) r2
      rw [List.mem_append] at hi
      exact (k2 i fun w => hi (.inr w)).trans (k1 i fun w => hi (.inl w))
  · cases hm
def bTup (n : Nat) (bs : MGs) : MG := fun d e => match d with
  | .tuple ds => if ds.length = n then bs ds e else none
  | _ => none
theorem jg_tup {fl : Bool} {es : List Expr} {kk : Nat} {pos : Pos} {js : List Nat} {bs : MGs} {n : Nat} (hc : X.calm = true) (h : PGs X es (tGsOf (X.fg tq) js bs)) (hn : (assignEach es X.env).length = n := by rfl) (hst : (assignEach es X.env).findIdx? (·.1) = none := by rfl) :
    PG X (.Tuple es kk pos) (tGOf (X.fg tq) fl js (bTup n bs)) := by
  refine PG.imp (pg_tup hc h hn hst) ?_
  rintro v σ H R ⟨G, e, d, e', rel, dp, hm, k⟩
  unfold bTup at hm
  split at hm
  · split at hm
    · rename_i hl
      obtain ⟨a, xs, rfl, q1, t1⟩ := dp.tup
      exact ⟨a, xs, rfl, same_tup same_cut q1, by rw [dpa_len t1]; exact hl, G, e, _, e', rel, t1, hm, k⟩
    · cases hm
  · cases hm
end
end PB

set_option maxHeartbeats 4000000
namespace PB
open PySem PySem.Spec PyProof.Rows L2

/-! ### the slots of a comprehension's own names -/
def wipeE (e : Sg) : List Nat → Sg
  | [] => e
  | v :: vs => (wipeE e vs).set v none
def isOwn (o : Option (Option Sl)) : Bool := match o with
  | some (some (.own _ _)) => true
  | _ => false
def noOwn (e : Sg) (vs : List Nat) : Bool := vs.all fun i => !isOwn e[i]?
def wipeC (e : Sg) (vs : List Nat) : Option Sg := if noOwn e vs = true then some (wipeE e vs) else none
def restore (e f : Sg) : List Nat → Sg
  | [] => f
  | v :: vs => (restore e f vs).set v (e[v]?.getD none)
theorem wipeE_len (e : Sg) : ∀ vs, (wipeE e vs).length = e.length
  | [] => rfl
  | v :: vs => by
    show ((wipeE e vs).set v none).length = _
    rw [List.length_set, wipeE_len e vs]
theorem restore_len (e f : Sg) : ∀ vs, (restore e f vs).length = f.length
  | [] => rfl
  | v :: vs => by
    show ((restore e f vs).set v _).length = _
    rw [List.length_set, restore_len e f vs]
theorem wipeE_out (e : Sg) {i : Nat} : ∀ {vs}, i ∉ vs → (wipeE e vs)[i]? = e[i]?
  | [], _ => rfl
  | v :: vs, h => by
    show ((wipeE e vs).set v none)[i]? = _
    rw [List.getElem?_set, if_neg (fun q => h (by rw [q]; exact List.mem_cons_self)), wipeE_out e fun w => h (List.mem_cons_of_mem _ w)]
theorem wipeE_in (e : Sg) {i : Nat} {s : Sl} : ∀ {vs}, (wipeE e vs)[i]? = some (some s) → i ∉ vs ∧ e[i]? = some (some s)
  | [], h => ⟨by simp, h⟩
  | v :: vs, h => by
    have h' : ((wipeE e vs).set v none)[i]? = some (some s) := h
    rw [List.getElem?_set] at h'
    split at h'
    · split at h' <;> cases h'
    · rename_i hne
      obtain ⟨q1, q2⟩ := wipeE_in e h'
      exact ⟨fun w => (List.mem_cons.mp w).elim (fun z => hne z.symm) q1, q2⟩
theorem restore_out (e f : Sg) {i : Nat} : ∀ {vs}, i ∉ vs → (restore e f vs)[i]? = f[i]?
  | [], _ => rfl
  | v :: vs, h => by
    show ((restore e f vs).set v _)[i]? = _
    rw [List.getElem?_set, if_neg (fun q => h (by rw [q]; exact List.mem_cons_self)), restore_out e f fun w => h (List.mem_cons_of_mem _ w)]
theorem restore_in (e f : Sg) (hl : e.length = f.length) {i : Nat} : ∀ {vs}, i ∈ vs → (restore e f vs)[i]? = e[i]?
  | [], h => by simp at h
  | v :: vs, h => by
    show ((restore e f vs).set v _)[i]? = _
    rw [List.getElem?_set]
    split
    · rename_i q
      subst q
      split
      · rename_i hv
        rw [restore_len, ← hl] at hv
        rw [List.getElem?_eq_getElem hv]
        rfl
      · rename_i hv
        rw [restore_len, ← hl] at hv
        rw [List.getElem?_eq_none (by omega)]
    · rename_i hne
      rcases List.mem_cons.mp h with q | q
      · exact absurd q.symm hne
      · exact restore_in e f hl q
theorem noOwn_at {e : Sg} {vs : List Nat} {i : Nat} (h : noOwn e vs = true) (hi : i ∈ vs) : isOwn e[i]? = false := by
  have := List.all_eq_true.mp h i hi
  simpa using this
theorem wipe_ext {σ σ' : SS} {vs : List Nat} (hl : σ'.length = σ.length) (h : ∀ i : Nat, i ∉ vs → σ'[i]? = σ[i]?) : wipe σ' vs = wipe σ vs := by
  apply List.ext_getElem?
  intro i
  by_cases hi : i ∈ vs
  · have key : ∀ (τ : SS) (ws : List Nat), i ∈ ws → (wipe τ ws)[i]? = if i < τ.length then some none else none := by
      intro τ ws
      induction ws with
      | nil => intro h; simp at h
      | cons w ws ih =>
        intro hw
        show ((wipe τ ws).set w none)[i]? = _
        rw [List.getElem?_set, wipe_length]
        by_cases e : w = i
        · rw [if_pos e, e]
        · rw [if_neg e]
          rcases List.mem_cons.mp hw with q | q
          · exact absurd q.symm e
          · exact ih q
    rw [key σ' vs hi, key σ vs hi, hl]
  · rw [wipe_out hi, wipe_out hi]
    exact h i hi

section
variable {K : Frag} {G : Addr → Prop} {σ σ2 : SS} {H : Hp} {e : Sg} {vs : List Nat}
theorem own_wiped {a : Addr} (w : Own (wipe σ vs) (wipeE e vs) a) : Own σ e a := by
  obtain ⟨i, b, ds, h1, h2⟩ := w
  obtain ⟨q1, q2⟩ := wipeE_in e h1
  rw [wipe_out q1] at h2
  exact ⟨i, b, ds, q2, h2⟩
theorem own_wipe {a : Addr} (hn : noOwn e vs = true) (w : Own σ e a) : Own (wipe σ vs) (wipeE e vs) a := by
  obtain ⟨i, b, ds, h1, h2⟩ := w
  have hi : i ∉ vs := fun q => by
    have := noOwn_at hn q
    rw [h1] at this
    cases this
  exact ⟨i, b, ds, by rw [wipeE_out e hi]; exact h1, by rw [wipe_out hi]; exact h2⟩
theorem Step.wiped (hn : noOwn e vs = true) : Step σ e H (wipe σ vs) (wipeE e vs) H := by
  refine ⟨fun _ _ h _ _ => h, fun a w => .inl (own_wiped w), fun _ h => h, fun i ds hi => ?_⟩
  have hi' : i ∉ vs := fun q => by
    have := noOwn_at hn q
    rw [hi] at this
    cases this
  rw [wipe_out hi', wipeE_out e hi']
  exact ⟨rfl, ds, hi⟩
theorem Rel.wiped (hn : noOwn e vs = true) (r : Rel K G σ H e) : Rel K G (wipe σ vs) H (wipeE e vs) where
  len := by rw [wipe_length, wipeE_len]; exact r.len
  val := fun i d h => by
    obtain ⟨q1, q2⟩ := wipeE_in e h
    obtain ⟨v, h1, h2⟩ := r.val i d q2
    exact ⟨v, by rw [wipe_out q1]; exact h1, dp_mono (Step.wiped hn).vis h2⟩
  own := fun i b ds h => by
    obtain ⟨q1, q2⟩ := wipeE_in e h
    obtain ⟨p, xs, h1, h2, h3, h4⟩ := r.own i b ds q2
    exact ⟨p, xs, by rw [wipe_out q1]; exact h1, h2, dpa_mono (Step.wiped hn).vis h3, h4⟩
  sep := fun i j b c ds es p h1 h2 h3 h4 => by
    obtain ⟨q1, q2⟩ := wipeE_in e h1
    obtain ⟨q3, q4⟩ := wipeE_in e h2
    rw [wipe_out q1] at h3
    rw [wipe_out q3] at h4
    exact r.sep i j b c ds es p q2 q4 h3 h4
  frn := r.frn
  tab := r.tab
  fnr := fun i x h => by
    obtain ⟨q1, q2⟩ := wipeE_in e h
    obtain ⟨f, h1, h2⟩ := r.fnr i x q2
    exact ⟨f, h1, by rw [wipe_out q1]; exact h2⟩
/-- a foreign object changes -/
theorem Rel.other {Dl : Addr} {o : HO} {xl : List V} (r : Rel K G σ H e) (hG : G Dl) (hl : H Dl = some (.lst xl)) : Rel K G σ (upd H Dl o) e := by
  have sm : Same (vis G σ e H) (vis G σ e (upd H Dl o)) := fun a u h => by
    obtain ⟨h1, h2⟩ := cut_mp h
    have hne : a ≠ Dl := fun q => h1 (.inl (by rw [q]; exact hG))
    exact cut_of h1 (by rw [upd_ne hne]; exact h2)
  refine ⟨r.len, fun i d h => ?_, fun i b ds h => ?_, r.sep, fun a h => ?_, tabs_lst r.tab hl, r.fnr⟩
  · obtain ⟨v, h1, h2⟩ := r.val i d h
    exact ⟨v, h1, dp_mono sm h2⟩
  · obtain ⟨p, xs, h1, h2, h3, h4⟩ := r.own i b ds h
    have hne : p ≠ Dl := fun q => h4 (by rw [q]; exact hG)
    exact ⟨p, xs, h1, by rw [upd_ne hne]; exact h2, dpa_mono sm h3, h4⟩
  · by_cases hne : a = Dl
    · rw [hne, upd_same]
      exact fun z => nomatch z
    · rw [upd_ne hne]
      exact r.frn a h
theorem vis_other {Dl : Addr} {o : HO} (hG : G Dl) : Same (vis G σ e H) (vis G σ e (upd H Dl o)) := fun a u h => by
  obtain ⟨h1, h2⟩ := cut_mp h
  have hne : a ≠ Dl := fun q => h1 (.inl (by rw [q]; exact hG))
  exact cut_of h1 (by rw [upd_ne hne]; exact h2)
theorem Step.other {σ' : SS} {e' : Sg} {H' : Hp} {Dl : Addr} {o : HO} (s : Step σ e H σ' e' H') (hD : H Dl = none) : Step σ e H σ' e' (upd H' Dl o) where
  keep := fun a u h n nt => by
    rw [upd_ne (ne_of_none h hD)]
    exact s.keep a u h n nt
  new := s.new
  there := fun a h => by
    by_cases hne : a = Dl
    · rw [hne]
      exact hD
    · rw [upd_ne hne] at h
      exact s.there a h
  par := s.par
end

/-! ### comprehensions -/
def lcGo (bind : MG) (test : MT) (elt : ME) (vs : List Nat) : List D → Sg → Option (List D × Sg)
  | [], e => some ([], e)
  | d :: ds, e => (bind d e).bind fun e1 => (test e1).bind fun t => if t.1 = true then (elt t.2).bind fun y => (wipeC y.2 vs).bind fun e2 => (lcGo bind test elt vs ds e2).map fun r => (y.1 :: r.1, r.2)
    else (wipeC t.2 vs).bind fun e2 => lcGo bind test elt vs ds e2
def mLc (mi : ML) (bind : MG) (test : MT) (elt : ME) (vs : List Nat) : ML := fun e => (mi e).bind fun it => if szOk it.1.length = true then (wipeC it.2 vs).bind fun e0 => (lcGo bind test elt vs it.1 e0).map fun r => (r.1, restore it.2 r.2 vs) else none
def mYes : MT := fun e => some (true, e)
theorem lcGo_len {bind : MG} {test : MT} {elt : ME} {vs : List Nat} : ∀ {ds : List D} {e : Sg} {r : List D × Sg}, lcGo bind test elt vs ds e = some r → r.1.length ≤ ds.length
  | [], e, r, h => by
    cases h
    exact Nat.le_refl _
  | d :: ds, e, r, h => by
    unfold lcGo at h
    obtain ⟨e1, _, h⟩ := Option.bind_eq_some_iff.mp h
    obtain ⟨t, _, h⟩ := Option.bind_eq_some_iff.mp h
    split at h
    · obtain ⟨y, _, h⟩ := Option.bind_eq_some_iff.mp h
      obtain ⟨e2, _, h⟩ := Option.bind_eq_some_iff.mp h
      obtain ⟨r', h1, h⟩ := Option.map_eq_some_iff.mp h
      subst h
      have := lcGo_len h1
      simp only [List.length_cons]
      omega
    · obtain ⟨e2, _, h⟩ := Option.bind_eq_some_iff.mp h
      have := lcGo_len h
      simp only [List.length_cons]
      omega
section
variable {K : Frag} {X : Cx}
theorem wipeC_some {e f : Sg} {vs : List Nat} (h : wipeC e vs = some f) : noOwn e vs = true ∧ f = wipeE e vs := by
  unfold wipeC at h
  split at h
  · rename_i hn
    cases h
    exact ⟨hn, rfl⟩
  · cases h
/-- from the block's state back to the def's -/
theorem back {G : Addr → Prop} {σ : SS} {H1 H : Hp} {e1 ei : Sg} {vs : List Nat} {Dl : Addr} (hn : noOwn e1 vs = true) (r1 : Rel K G σ H1 e1) (hD : H1 Dl = none) (ri : Rel K (fun a => G a ∨ a = Dl) (wipe σ vs) H ei) (hei : ∀ i ∈ vs, ∀ s, ei[i]? ≠ some (some s))
    (st : Step (wipe σ vs) (wipeE e1 vs) H1 (wipe σ vs) ei H) :
    Step σ e1 H1 σ (restore e1 ei vs) H ∧ Rel K (fun a => G a ∨ a = Dl) σ H (restore e1 ei vs) ∧ (∀ a, Own σ (restore e1 ei vs) a ↔ Own (wipe σ vs) ei a) := by
  have hl : e1.length = ei.length := by rw [← r1.len, ← ri.len, wipe_length]
  have own1 : ∀ a, Own σ (restore e1 ei vs) a ↔ Own (wipe σ vs) ei a := by
    intro a
    constructor
    · rintro ⟨i, b, ds, h1, h2⟩
      by_cases hi : i ∈ vs
      · rw [restore_in e1 ei hl hi] at h1
        have := noOwn_at hn hi
        rw [h1] at this
        cases this
      · rw [restore_out e1 ei hi] at h1
        exact ⟨i, b, ds, h1, by rw [wipe_out hi]; exact h2⟩
    · rintro ⟨i, b, ds, h1, h2⟩
      have hi : i ∉ vs := fun q => hei i q _ h1
      rw [wipe_out hi] at h2
      exact ⟨i, b, ds, by rw [restore_out e1 ei hi]; exact h1, h2⟩
  have st' : Step σ e1 H1 σ (restore e1 ei vs) H := by
    refine ⟨fun a o h n nt => st.keep a o h (fun w => n (own_wiped w)) nt, fun a w => ?_, st.there, fun i ds hi => ⟨rfl, ?_⟩⟩
    · rcases st.new a ((own1 a).mp w) with q | q
      · exact .inl (own_wiped q)
      · exact .inr q
    · have hi' : i ∉ vs := fun q => by
        have := noOwn_at hn q
        rw [hi] at this
        cases this
      obtain ⟨_, ds', h2⟩ := st.par i ds (by rw [wipeE_out e1 hi']; exact hi)
      exact ⟨ds', by rw [restore_out e1 ei hi']; exact h2⟩
  have sm : Same (vis (fun a => G a ∨ a = Dl) (wipe σ vs) ei H) (vis (fun a => G a ∨ a = Dl) σ (restore e1 ei vs) H) := fun a u h => by
    obtain ⟨h1, h2⟩ := cut_mp h
    refine cut_of ?_ h2
    rintro (w | w)
    · exact h1 (.inl w)
    · exact h1 (.inr ((own1 a).mp w))
  have sm1 : Same (vis G σ e1 H1) (vis (fun a => G a ∨ a = Dl) σ (restore e1 ei vs) H) := fun a u h => by
    have h0 := (cut_mp h).2
    obtain ⟨h1, h2⟩ := cut_mp (st'.vis (G := G) a u h)
    refine cut_of ?_ h2
    rintro ((w | w) | w)
    · exact h1 (.inl w)
    · exact ne_of_none h0 hD w
    · exact h1 (.inr w)
  refine ⟨st', ⟨by rw [restore_len, r1.len, hl], fun i d h => ?_, fun i b ds h => ?_, fun i j b c ds es p h1 h2 h3 h4 => ?_, ri.frn, ri.tab, fun i x h => ?_⟩, own1⟩
  · by_cases hi : i ∈ vs
    · rw [restore_in e1 ei hl hi] at h
      obtain ⟨v, q1, q2⟩ := r1.val i d h
      exact ⟨v, q1, dp_mono sm1 q2⟩
    · rw [restore_out e1 ei hi] at h
      obtain ⟨v, q1, q2⟩ := ri.val i d h
      rw [wipe_out hi] at q1
      exact ⟨v, q1, dp_mono sm q2⟩
  · by_cases hi : i ∈ vs
    · rw [restore_in e1 ei hl hi] at h
      have := noOwn_at hn hi
      rw [h] at this
      cases this
    · rw [restore_out e1 ei hi] at h
      obtain ⟨p, xs, q1, q2, q3, q4⟩ := ri.own i b ds h
      rw [wipe_out hi] at q1
      exact ⟨p, xs, q1, q2, dpa_mono sm q3, q4⟩
  · have out : ∀ {i b ds}, (restore e1 ei vs)[i]? = some (some (Sl.own b ds)) → i ∉ vs ∧ ei[i]? = some (some (Sl.own b ds)) := by
      intro i b ds h
      by_cases hi : i ∈ vs
      · rw [restore_in e1 ei hl hi] at h
        have := noOwn_at hn hi
        rw [h] at this
        cases this
      · rw [restore_out e1 ei hi] at h
        exact ⟨hi, h⟩
    obtain ⟨o1, g1⟩ := out h1
    obtain ⟨o2, g2⟩ := out h2
    exact ri.sep i j b c ds es p g1 g2 (by rw [wipe_out o1]; exact h3) (by rw [wipe_out o2]; exact h4)
  · by_cases hi : i ∈ vs
    · rw [restore_in e1 ei hl hi] at h
      exact r1.fnr i x h
    · rw [restore_out e1 ei hi] at h
      obtain ⟨f, q1, q2⟩ := ri.fnr i x h
      rw [wipe_out hi] at q2
      exact ⟨f, q1, q2⟩
theorem wiped_none {e : Sg} {vs : List Nat} : ∀ i ∈ vs, ∀ s, (wipeE e vs)[i]? ≠ some (some s) := fun i hi s h => (wipeE_in e h).1 hi
theorem lc_of {mi : ML} {bind : MG} {test : MT} {elt : ME} {vs js : List Nat} (hjs : ∀ j ∈ js, j ∈ vs) :
    ∀ σ H Q, tNOf K (mLc mi bind test elt vs) σ H Q → tLc (tIOf K fl mi) (tGOf K fl js bind) (tTOf K test) (tOf K elt) vs σ H Q := by
  rintro σ H Q ⟨G, e, ds, e', rel, hm, k⟩
  obtain ⟨⟨items, e1⟩, h1, hm⟩ := Option.bind_eq_some_iff.mp hm
  simp only at hm
  split at hm
  · rename_i hz
    obtain ⟨e0, h0, hm⟩ := Option.bind_eq_some_iff.mp hm
    obtain ⟨⟨out, eF⟩, hgo, hm⟩ := Option.map_eq_some_iff.mp hm
    obtain ⟨rfl, rfl⟩ := Prod.mk.inj hm
    obtain ⟨hn, rfl⟩ := wipeC_some h0
    refine ⟨G, e, items, e1, rel, h1, fun J H1 s1 r1 wk Dl hD => ?_⟩
    -- the invariant
    refine ⟨fun i m H' => m = items.length - i ∧ i ≤ items.length ∧ ∃ (ei : Sg) (acc : List V) (da rest : List D), Rel K (fun a => G a ∨ a = Dl) (wipe σ vs) H' ei ∧ (∀ i ∈ vs, ∀ s, ei[i]? ≠ some (some s)) ∧
        Step (wipe σ vs) (wipeE e1 vs) H1 (wipe σ vs) ei H' ∧ H' Dl = some (.lst acc) ∧ DpAll K (vis (fun a => G a ∨ a = Dl) (wipe σ vs) ei H') acc da ∧ da.length ≤ i ∧ lcGo bind test elt vs (items.drop i) ei = some (rest, eF) ∧ da ++ rest = out,
      ⟨items.length, by simp, Nat.zero_le _, wipeE e1 vs, [], [], out, (r1.wiped hn).foreign hD, wiped_none, Step.refl.other hD, upd_same, .nil, Nat.le_refl _, by simpa using hgo, rfl⟩, ?_⟩
    rintro i m H2 ⟨rfl, hi, ei, acc, da, rest, ri, hei, st, hDl, dacc, hlen, hgo', hout⟩
    have hw : (wipe σ vs) = wipe σ vs := rfl
    obtain ⟨b1, b2, b3⟩ := back hn r1 hD ri hei st
    -- what was seen ahead is seen in the block
    have seen : Same (vis G σ e1 H1) (vis (fun a => G a ∨ a = Dl) (wipe σ vs) ei H2) := fun a o h => by
      obtain ⟨q1, q2⟩ := cut_mp h
      have hne : a ≠ Dl := ne_of_none q2 hD
      refine cut_of ?_ (st.keep a o q2 (fun w => q1 (.inr (own_wiped w))) (cut_nt h)) (cut_nt h)
      rintro ((w | w) | w)
      · exact q1 (.inl w)
      · exact hne w
      · rcases st.new a w with z | z
        · exact q1 (.inr (own_wiped z))
        · rw [q2] at z; cases z
    by_cases hlt : i < items.length
    · refine .inr ⟨wk.go i H2 (seen.trans same_cut) hlt, ?_⟩
      have hdrop : items.drop i = items[i] :: items.drop (i + 1) := List.drop_eq_getElem_cons hlt
      rw [hdrop] at hgo'
      unfold lcGo at hgo'
      obtain ⟨e2, hb, hgo'⟩ := Option.bind_eq_some_iff.mp hgo'
      obtain ⟨⟨t, e3⟩, ht, hgo'⟩ := Option.bind_eq_some_iff.mp hgo'
      refine ⟨fun H' => ∃ m', m' < items.length - i ∧ (m' = items.length - (i + 1) ∧ i + 1 ≤ items.length ∧ ∃ (ei : Sg) (acc : List V) (da rest : List D), Rel K (fun a => G a ∨ a = Dl) (wipe σ vs) H' ei ∧ (∀ i ∈ vs, ∀ s, ei[i]? ≠ some (some s)) ∧
        Step (wipe σ vs) (wipeE e1 vs) H1 (wipe σ vs) ei H' ∧ H' Dl = some (.lst acc) ∧ DpAll K (vis (fun a => G a ∨ a = Dl) (wipe σ vs) ei H') acc da ∧ da.length ≤ i + 1 ∧ lcGo bind test elt vs (items.drop (i + 1)) ei = some (rest, eF) ∧ da ++ rest = out), fun H' h => h, fun x H3 hy => ?_⟩
      have hF : ∀ a, ((G a ∨ a = Dl) ∨ Own (wipe σ vs) ei a) → H2 a ≠ none := ri.ne0
      obtain ⟨sm3, dx⟩ := wk.yld i H2 (fun a => (G a ∨ a = Dl) ∨ Own (wipe σ vs) ei a) x H3 items[i] seen hF (List.getElem?_eq_getElem hlt) hy
      refine ⟨fun a => G a ∨ a = Dl, ei, items[i], e2, ri.grow sm3, dx, hb, fun σ2 k2 l2 s2 r2 => ⟨?_, fun a => G a ∨ a = Dl, e2, t, e3, r2, ht, fun H4 s4 r4 => ?_⟩⟩
      · have hh : wipe σ2 vs = wipe (wipe σ vs) vs := wipe_ext l2 fun j hj => k2 j fun w => hj (hjs j w)
        rw [hh]
        refine wipe_ext (wipe_length σ vs) fun j hj => wipe_out hj
      · have hws : wipe σ2 vs = wipe σ vs := by
          have hh : wipe σ2 vs = wipe (wipe σ vs) vs := wipe_ext l2 fun j hj => k2 j fun w => hj (hjs j w)
          rw [hh]
          exact wipe_ext (wipe_length σ vs) fun j hj => wipe_out hj
        have g2 : Step (wipe σ vs) ei H2 σ2 e2 H3 := (Step.grow (e := ei) sm3).trans s2
        have g4 : Step (wipe σ vs) ei H2 σ2 e3 H4 := g2.trans s4
        have D4 : H4 Dl = some (.lst acc) := g4.keep Dl _ hDl (fun w => by
          obtain ⟨j, b, ds', q1, q2⟩ := w
          obtain ⟨p, xs, q3, q4, q5, q6⟩ := ri.own j b ds' q1
          rw [q2] at q3
          cases q3
          exact q6 (.inr rfl)) rfl
        cases t with
        | true =>
          rw [if_pos rfl] at hgo'
          obtain ⟨⟨y, e4⟩, he, hgo'⟩ := Option.bind_eq_some_iff.mp hgo'
          obtain ⟨e5, hw5, hgo'⟩ := Option.bind_eq_some_iff.mp hgo'
          obtain ⟨⟨rest', eF'⟩, hrest, hgo'⟩ := Option.map_eq_some_iff.mp hgo'
          obtain ⟨rfl, rfl⟩ := Prod.mk.inj hgo'
          obtain ⟨hn5, rfl⟩ := wipeC_some hw5
          refine iteT ⟨fun a => G a ∨ a = Dl, e3, y, e4, r4, he, fun v H5 s5 r5 dy => ?_⟩
          have g5 : Step (wipe σ vs) ei H2 σ2 e4 H5 := g4.trans s5
          have g6 : Step (wipe σ vs) ei H2 (wipe σ2 vs) (wipeE e4 vs) H5 := g5.trans (Step.wiped hn5)
          rw [hws] at g6
          have r6 : Rel K (fun a => G a ∨ a = Dl) (wipe σ vs) H5 (wipeE e4 vs) := by
            have := r5.wiped hn5
            rw [hws] at this
            exact this
          have D5 : H5 Dl = some (.lst acc) := s5.keep Dl _ D4 (fun w => by
            obtain ⟨j, b, ds', q1, q2⟩ := w
            obtain ⟨p, xs, q3, q4, q5, q6⟩ := r4.own j b ds' q1
            rw [q2] at q3
            cases q3
            exact q6 (.inr rfl)) rfl
          refine ⟨acc, D5, ?_, items.length - (i + 1), by omega, rfl, by omega, wipeE e4 vs, acc ++ [v], da ++ [y], rest', r6.other (.inr rfl) D5, wiped_none, (st.trans g6).other hD, upd_same, dpa_mono (vis_other (.inr rfl)) (dpa_app (dpa_mono g6.vis dacc) (.cons ?_ .nil)), ?_, hrest, ?_⟩
          · rw [dpa_len dacc]
            have hz' : items.length ≤ 100000 := of_decide_eq_true hz
            rw [sizeLine_eq]
            omega
          · have := dp_mono (Step.wiped (H := H5) (σ := σ2) hn5).vis dy
            rw [hws] at this
            exact this
          · rw [List.length_append, List.length_singleton]
            omega
          · rw [List.append_assoc]
            exact hout
        | false =>
          rw [if_neg Bool.false_ne_true] at hgo'
          obtain ⟨e5, hw5, hgo'⟩ := Option.bind_eq_some_iff.mp hgo'
          obtain ⟨hn5, rfl⟩ := wipeC_some hw5
          have g6 : Step (wipe σ vs) ei H2 (wipe σ2 vs) (wipeE e3 vs) H4 := g4.trans (Step.wiped hn5)
          rw [hws] at g6
          have r6 : Rel K (fun a => G a ∨ a = Dl) (wipe σ vs) H4 (wipeE e3 vs) := by
            have := r4.wiped hn5
            rw [hws] at this
            exact this
          exact iteF ⟨items.length - (i + 1), by omega, rfl, by omega, wipeE e3 vs, acc, da, rest, r6, wiped_none, st.trans g6, D4, dpa_mono g6.vis dacc, by omega, hgo', hout⟩
    · have hi2 : i = items.length := by omega
      refine .inl ⟨wk.stop i H2 (seen.trans same_cut) (by omega), ?_⟩
      rw [hi2, List.drop_length] at hgo'
      cases hgo'
      rw [List.append_nil] at hout
      subst hout
      refine k Dl acc H2 (s1.trans b1) b2 (s1.there Dl hD) hDl (dpa_mono ?_ dacc)
      intro a o h
      obtain ⟨q1, q2⟩ := cut_mp h
      refine cut_of ?_ q2
      rintro (w | w)
      · exact q1 (.inl w)
      · exact q1 (.inr ((b3 a).mp w))
  · cases hm
theorem jts_nil : PTs X [] (tTOf (X.fg tq) mYes) := ⟨fun pins s σ H Q I h => pts_nil.run pins s σ H Q I (by
  obtain ⟨G, e, d, e', rel, hm, k⟩ := h
  cases hm
  exact k H .refl rel)⟩
theorem jts_one {c : Expr} {t : MT} (h : PT X c (tTOf (X.fg tq) t)) : PTs X [c] (tTOf (X.fg tq) t) := pts_one h
theorem jn_lc {elt tg iter : Expr} {ifs : List Expr} {scope : Scope} {own : List (Str × Nat)} {pos : Pos} {mi : ML} {bind : MG} {test : MT} {me : ME} {js : List Nat} (hc : X.calm = true) (hN : X.N.Nodup) (hi : PI X tg iter (tIOf (X.fg tq) fl mi)) (ok : BlkOk X.N X.env.scope scope own)
    (hg : ∀ (s : Shared) (H : Hp) (C : Addr) (cl : List (Str × Addr)) (fp : List Addr), PG (X.blk s H scope (compEnvC scope cl C X.env) fp) tg (tGOf (X.fg tq) fl js bind)) (ht : ∀ (s : Shared) (H : Hp) (C : Addr) (cl : List (Str × Addr)) (fp : List Addr), PTs (X.blk s H scope (compEnvC scope cl C X.env) fp) ifs (tTOf (X.fg tq) test))
    (he : ∀ (s : Shared) (H : Hp) (C : Addr) (cl : List (Str × Addr)) (fp : List Addr), PE (X.blk s H scope (compEnvC scope cl C X.env) fp) elt (tOf (X.fg tq) me)) (hjs : ∀ j ∈ js, j ∈ own.map (·.2) := by decide) (hs : ∀ x, foldedSetIterable iter X.env x = pure x := by intro _; rfl) :
    PE X (.ListComp elt [⟨tg, iter, ifs, 0⟩] scope pos) (tNOf (X.fg tq) (mLc mi bind test me (own.map (·.2)))) := PE.imp (pe_lc hc hN hi ok hg ht he hs) (lc_of hjs)
end
end PB

set_option maxHeartbeats 4000000
namespace PB
open PySem PySem.Spec PyProof.Rows L2

/-! ### statements -/
def sSkip : MS := fun e => some (.next, e)
def sSeq (a b : MS) : MS := fun e => (a e).bind fun r => match r.1 with
  | .next => b r.2
  | o => some (o, r.2)
def sRet (a : ME) : MS := fun e => (a e).map fun r => (.ret (.val r.1), r.2)
def sRetNew (a : ML) : MS := fun e => (a e).map fun r => (.ret (.new r.1), r.2)
def sIf (t : MT) (a b : MS) : MS := fun e => (t e).bind fun r => if r.1 = true then a r.2 else b r.2
def sAsg (a : ME) (b : MG) : MS := fun e => (a e).bind fun r => (b r.1 r.2).map fun e' => (.next, e')
def sAsgOwn (i : Nat) (a : ML) : MS := fun e => (a e).bind fun r => if (decide (i < r.2.length) && !isPar r.2[i]?) = true then some (.next, r.2.set i (some (.own false r.1))) else none
def sDrop (a : ME) : MS := fun e => (a e).map fun r => (.next, r.2)
def sCont : MS := fun e => some (.cont, e)
def sBrk : MS := fun e => some (.brk, e)
section
variable {K : Frag} {X : Cx} {G : Addr → Prop} {σ : SS} {H : Hp} {e : Sg} {st : Stmt} {rest : List Stmt} {ma mb : MS} {a : Expr} {me : ME} {ml : ML} {pos : Pos}
theorem RtRel.back {F : Addr → Prop} {H0 H H' : Hp} {v : V} {r : Rt} (h : ∀ a, H a = none → H0 a = none) (q : RtRel K F H H' v r) : RtRel K F H0 H' v r := by
  cases r with
  | val d => exact q
  | new ds =>
    obtain ⟨p, xs, h1, h2, h3⟩ := q
    exact ⟨p, xs, h1, h p h2, h3⟩
theorem outs_back {σ1 : SS} {H1 : Hp} {e1 e' : Sg} {D : Ends} {o : Out} (s : Step σ e H σ1 e1 H1) (h : outs K G σ e H D o e') : outs K G σ1 e1 H1 D o e' := by
  cases o with
  | next => exact fun σ' H' st r => h σ' H' (s.trans st) r
  | brk => exact fun σ' H' st r => h σ' H' (s.trans st) r
  | cont => exact fun σ' H' st r => h σ' H' (s.trans st) r
  | ret r => exact fun v σ' H' st rr q => h v σ' H' (s.trans st) rr (q.back s.there)
theorem jss_nil : PSs X [] (tSOf (X.fg tq) sSkip) := PSs.imp pss_nil (by
  rintro D σ H ⟨G, e, o, e', rel, hm, k⟩
  cases hm
  exact k σ H .refl rel)
theorem seq_of : ∀ D σ H, tSOf K (sSeq ma mb) D σ H → tSeq (tSOf K ma) (tSOf K mb) D σ H := by
  rintro D σ H ⟨G, e, o, e', rel, hm, k⟩
  obtain ⟨⟨o1, e1⟩, h1, hm⟩ := Option.bind_eq_some_iff.mp hm
  refine ⟨G, e, o1, e1, rel, h1, ?_⟩
  cases o1 with
  | next => exact fun σ' H' st r => ⟨G, e1, o, e', r, hm, outs_back st k⟩
  | brk =>
    cases hm
    exact k
  | cont =>
    cases hm
    exact k
  | ret r =>
    cases hm
    exact k
theorem jss_cons (h1 : PS X st (tSOf (X.fg tq) ma)) (h2 : PSs X rest (tSOf (X.fg tq) mb)) : PSs X (st :: rest) (tSOf (X.fg tq) (sSeq ma mb)) := PSs.imp (pss_cons h1 h2) seq_of
theorem jss_one (h1 : PS X st (tSOf (X.fg tq) ma)) : PSs X [st] (tSOf (X.fg tq) ma) := pss_one h1
theorem js_pass : PS X (.Pass pos) (tSOf (X.fg tq) sSkip) := PS.imp ps_pass (by
  rintro D σ H ⟨G, e, o, e', rel, hm, k⟩
  cases hm
  exact k σ H .refl rel)
theorem js_cont : PS X (.Continue pos) (tSOf (X.fg tq) sCont) := PS.imp ps_continue (by
  rintro D σ H ⟨G, e, o, e', rel, hm, k⟩
  cases hm
  exact k σ H .refl rel)
theorem js_brk : PS X (.Break pos) (tSOf (X.fg tq) sBrk) := PS.imp ps_break (by
  rintro D σ H ⟨G, e, o, e', rel, hm, k⟩
  cases hm
  exact k σ H .refl rel)
theorem js_ret (ha : PE X a (tOf (X.fg tq) me)) : PS X (.Return (some a) pos) (tSOf (X.fg tq) (sRet me)) := PS.imp (ps_ret ha) (by
  rintro D σ H ⟨G, e, o, e', rel, hm, k⟩
  obtain ⟨⟨d1, e1⟩, h1, hm⟩ := Option.map_eq_some_iff.mp hm
  obtain ⟨rfl, rfl⟩ := Prod.mk.inj hm
  exact ⟨G, e, d1, _, rel, h1, fun v H1 s1 r1 dp => k v σ H1 s1 r1 dp⟩)
theorem js_retNew (ha : PE X a (tNOf (X.fg tq) ml)) : PS X (.Return (some a) pos) (tSOf (X.fg tq) (sRetNew ml)) := PS.imp (ps_ret ha) (by
  rintro D σ H ⟨G, e, o, e', rel, hm, k⟩
  obtain ⟨⟨d1, e1⟩, h1, hm⟩ := Option.map_eq_some_iff.mp hm
  obtain ⟨rfl, rfl⟩ := Prod.mk.inj hm
  refine ⟨G, e, d1, _, rel, h1, fun p xs H1 s1 r1 hp hx dp => k _ σ H1 s1 r1.tame ⟨p, xs, rfl, hp, hx, dpa_mono ?_ dp⟩⟩
  intro a o h
  obtain ⟨q1, q2⟩ := cut_mp h
  refine cut_of ?_ q2
  rintro ((w | w) | w)
  · exact q1 (.inl (.inl w))
  · exact q1 (.inr w)
  · exact q1 (.inl (.inr w)))
theorem js_if {c : Expr} {as bs : List Stmt} {t : MT} (hc : PT X c (tTOf (X.fg tq) t)) (ha : PSs X as (tSOf (X.fg tq) ma)) (hb : PSs X bs (tSOf (X.fg tq) mb)) : PS X (.If c as bs pos) (tSOf (X.fg tq) (sIf t ma mb)) := PS.imp (ps_if hc ha hb) (by
  rintro D σ H ⟨G, e, o, e', rel, hm, k⟩
  obtain ⟨⟨d1, e1⟩, h1, hm⟩ := Option.bind_eq_some_iff.mp hm
  refine ⟨G, e, d1, e1, rel, h1, fun H1 s1 r1 => ?_⟩
  cases d1 with
  | true => exact iteT ⟨G, e1, o, e', r1, hm, outs_back s1 k⟩
  | false => exact iteF ⟨G, e1, o, e', r1, hm, outs_back s1 k⟩)
theorem asg_of {b : MG} {js : List Nat} : ∀ D σ H, tSOf K (sAsg me b) D σ H → tAsg (tOf K me) (tGOf K false js b) D σ H := by
  rintro D σ H ⟨G, e, o, e', rel, hm, k⟩
  obtain ⟨⟨d1, e1⟩, h1, hm⟩ := Option.bind_eq_some_iff.mp hm
  obtain ⟨e2, h2, hm⟩ := Option.map_eq_some_iff.mp hm
  obtain ⟨rfl, rfl⟩ := Prod.mk.inj hm
  exact ⟨G, e, d1, e1, rel, h1, fun v H1 s1 r1 dp => ⟨G, e1, d1, _, r1, .inl dp, h2, fun σ' _ _ s2 r2 => k σ' H1 (s1.trans s2) r2⟩⟩
/-- name = e, target = e -/
theorem js_set {i : Nat} {x : Str} {pos' : Pos} (hN : X.N.Nodup) (hi : X.N[i]? = some x) (hx : Loc X.env.scope x) (ha : PE X a (tOf (X.fg tq) me)) (hs : swapsWith a (some (.Name x pos')) pos.line X.env = pure false := by rfl) (hf : X.fn x = true ∨ X.env.scope.names.lookup x = some .local := by first | exact .inl rfl | exact .inr rfl | assumption) :
    PS X (.Assign [.Name x pos'] a pos) (tSOf (X.fg tq) (sAsg me (bName i))) := by
  refine PS.imp (ps_set hN hi hx ha hs hf) fun D σ H h => ?_
  obtain ⟨G, e, o, e', rel, hm, k⟩ := h
  obtain ⟨⟨d1, e1⟩, h1, hm⟩ := Option.bind_eq_some_iff.mp hm
  obtain ⟨e2, h2, hm⟩ := Option.map_eq_some_iff.mp hm
  obtain ⟨rfl, rfl⟩ := Prod.mk.inj hm
  refine ⟨G, e, d1, e1, rel, h1, fun v H1 s1 r1 dp => ?_⟩
  unfold bName at h2
  split at h2
  · rename_i hc
    cases h2
    simp only [Bool.and_eq_true, decide_eq_true_eq, Bool.not_eq_true'] at hc
    obtain ⟨st, r2⟩ := put_val r1 hc.1 hc.2 dp
    exact k _ H1 (s1.trans st) r2
  · cases h2
theorem js_asg {tg : Expr} {b : MG} {js : List Nat} (ha : PE X a (tOf (X.fg tq) me)) (hg : PG X tg (tGOf (X.fg tq) false js b)) (hs : swapsWithSole [tg] a pos.line X.env = pure false := by rfl) (hw : swappedStores [tg] a X.env = pure none := by rfl)
    (h1 : (assignEach [tg] X.env).map (·.2) = [assign tg X.env] := by rfl) : PS X (.Assign [tg] a pos) (tSOf (X.fg tq) (sAsg me b)) := PS.imp (ps_asg ha hg hs hw h1) asg_of
/-- a slot takes a new list -/
theorem put_own {i : Nat} {ds : List D} {p : Addr} {xs : List V} {H1 : Hp} {e1 : Sg} (r : Rel K (fun a => G a ∨ a = p) σ H1 e1) (hi : i < e1.length) (hG : ¬ G p) (hx : H1 p = some (.lst xs)) (hd : DpAll K (vis (fun a => G a ∨ a = p) σ e1 H1) xs ds) :
    Rel K G (σ.set i (some (.ref p))) H1 (e1.set i (some (.own false ds))) ∧ ∀ a, Own (σ.set i (some (.ref p))) (e1.set i (some (.own false ds))) a → Own σ e1 a ∨ a = p := by
  have hn := r.notOwn
  have own' : ∀ a, Own (σ.set i (some (.ref p))) (e1.set i (some (.own false ds))) a → Own σ e1 a ∨ a = p := by
    rintro a ⟨j, b, ds', h1, h2⟩
    rw [List.getElem?_set] at h1 h2
    split at h1
    · rename_i q
      rw [if_pos q, if_pos (by rw [r.len]; exact hi)] at h2
      cases h2
      exact .inr rfl
    · rename_i hne
      rw [if_neg hne] at h2
      exact .inl ⟨j, b, ds', h1, h2⟩
  have sm : Same (vis (fun a => G a ∨ a = p) σ e1 H1) (vis G (σ.set i (some (.ref p))) (e1.set i (some (.own false ds))) H1) := fun a u h => by
    obtain ⟨h1, h2⟩ := cut_mp h
    refine cut_of ?_ h2
    rintro (w | w)
    · exact h1 (.inl (.inl w))
    · rcases own' a w with q | q
      · exact h1 (.inr q)
      · exact h1 (.inl (.inr q))
  refine ⟨⟨by rw [List.length_set, List.length_set]; exact r.len, fun j d hj => ?_, fun j b ds' hj => ?_, fun j k b c d1 d2 q hj hk s1 s2 => ?_, fun a h => r.frn a (.inl h), r.tab, fun j y hj => ?_⟩, own'⟩
  · rw [List.getElem?_set] at hj ⊢
    split at hj
    · cases hj
    · rename_i hne
      rw [if_neg hne]
      obtain ⟨v, q1, q2⟩ := r.val j d hj
      exact ⟨v, q1, dp_mono sm q2⟩
  · rw [List.getElem?_set] at hj ⊢
    split at hj
    · rename_i q
      cases hj
      rw [if_pos q, if_pos (by rw [r.len]; exact hi)]
      exact ⟨p, xs, rfl, hx, dpa_mono sm hd, hG⟩
    · rename_i hne
      rw [if_neg hne]
      obtain ⟨p', xs', q1, q2, q3, q4⟩ := r.own j b ds' hj
      exact ⟨p', xs', q1, q2, dpa_mono sm q3, fun w => q4 (.inl w)⟩
  · rw [List.getElem?_set] at hj hk s1 s2
    split at hj
    · rename_i n1
      rw [if_pos n1, if_pos (by rw [r.len]; exact hi)] at s1
      cases s1
      split at hk
      · rename_i n2
        rw [← n1, ← n2]
      · rename_i n2
        rw [if_neg n2] at s2
        exact absurd ⟨k, c, d2, hk, s2⟩ hn
    · rename_i n1
      rw [if_neg n1] at s1
      split at hk
      · rename_i n2
        rw [if_pos n2, if_pos (by rw [r.len]; exact hi)] at s2
        cases s2
        exact absurd ⟨j, b, d1, hj, s1⟩ hn
      · rename_i n2
        rw [if_neg n2] at s2
        exact r.sep j k b c d1 d2 q hj hk s1 s2
  · rw [List.getElem?_set] at hj ⊢
    split at hj
    · cases hj
    · rename_i hne
      rw [if_neg hne]
      exact r.fnr j y hj
/-- name = a new list, that is the name's own from then on -/
theorem js_setOwn {i : Nat} {x : Str} {pos' : Pos} (hN : X.N.Nodup) (hi : X.N[i]? = some x) (hx : Loc X.env.scope x) (ha : PE X a (tNOf (X.fg tq) ml)) (hs : swapsWith a (some (.Name x pos')) pos.line X.env = pure false := by rfl) (hf : X.fn x = true ∨ X.env.scope.names.lookup x = some .local := by first | exact .inl rfl | exact .inr rfl | assumption) :
    PS X (.Assign [.Name x pos'] a pos) (tSOf (X.fg tq) (sAsgOwn i ml)) := by
  refine PS.imp (ps_set hN hi hx ha hs hf) fun D σ H h => ?_
  obtain ⟨G, e, o, e', rel, hm, k⟩ := h
  obtain ⟨⟨d1, e1⟩, h1, hm⟩ := Option.bind_eq_some_iff.mp hm
  simp only at hm
  split at hm
  · rename_i hc
    simp only [Bool.and_eq_true, decide_eq_true_eq, Bool.not_eq_true'] at hc
    cases hm
    refine ⟨G, e, _, _, rel, h1, fun p xs H1 s1 r1 hp hx dp => ?_⟩
    obtain ⟨r2, own'⟩ := put_own r1 hc.1 (fun g => rel.frn p g hp) hx dp
    refine k _ H1 ⟨s1.keep, fun b w => ?_, s1.there, fun j ds hj => ?_⟩ r2
    · rcases own' b w with q | q
      · exact s1.new b q
      · rw [q]
        exact .inr hp
    · obtain ⟨_, ds', q2⟩ := s1.par j ds hj
      have hne : i ≠ j := fun q => by
        rw [q, q2] at hc
        cases hc.2
      rw [List.getElem?_set, List.getElem?_set, if_neg hne, if_neg hne]
      exact ⟨rfl, ds', q2⟩
  · cases hm

/-! ### a list of one's own changes -/
theorem own_write {i : Nat} {b : Bool} {ds ds2 : List D} {p : Addr} {ys : List V} (r : Rel K G σ H e) (h : e[i]? = some (some (.own b ds))) (hp : σ[i]? = some (some (.ref p))) (hd : DpAll K (vis G σ e H) ys ds2) :
    Step σ e H σ (e.set i (some (.own b ds2))) (upd H p (.lst ys)) ∧ Rel K G σ (upd H p (.lst ys)) (e.set i (some (.own b ds2))) := by
  have hi : i < e.length := (List.getElem?_eq_some_iff.mp h).1
  obtain ⟨p', xs, q1, q2, q3, q4⟩ := r.own i b ds h
  rw [hp] at q1
  cases q1
  have own' : ∀ a, Own σ (e.set i (some (.own b ds2))) a ↔ Own σ e a := by
    intro a
    constructor
    · rintro ⟨j, c, ds', h1, h2⟩
      rw [List.getElem?_set] at h1
      split at h1
      · rename_i n1
        exact ⟨i, b, ds, h, by rw [n1]; exact h2⟩
      · exact ⟨j, c, ds', h1, h2⟩
    · rintro ⟨j, c, ds', h1, h2⟩
      by_cases hj : i = j
      · exact ⟨j, b, ds2, by rw [List.getElem?_set, if_pos hj, if_pos hi], h2⟩
      · exact ⟨j, c, ds', by rw [List.getElem?_set, if_neg hj]; exact h1, h2⟩
  have sm : Same (vis G σ e H) (vis G σ (e.set i (some (.own b ds2))) (upd H p (.lst ys))) := fun a u h' => by
    obtain ⟨h1, h2⟩ := cut_mp h'
    have hne : a ≠ p := fun q => h1 (.inr ⟨i, b, ds, h, by rw [q]; exact hp⟩)
    refine cut_of ?_ (by rw [upd_ne hne]; exact h2)
    rintro (w | w)
    · exact h1 (.inl w)
    · exact h1 (.inr ((own' a).mp w))
  refine ⟨⟨fun a o h1 n _ => ?_, fun a w => .inl ((own' a).mp w), fun a h1 => ?_, fun j ds' hj => ⟨rfl, ?_⟩⟩, ⟨by rw [List.length_set]; exact r.len, fun j d hj => ?_, fun j c ds' hj => ?_, fun j k c c' d1 d2 q hj hk s1 s2 => ?_, fun a h1 => ?_, tabs_lst r.tab q2, fun j y hj => ?_⟩⟩
  · have hne : a ≠ p := fun q => n ⟨i, b, ds, h, by rw [q]; exact hp⟩
    rw [upd_ne hne]
    exact h1
  · by_cases hne : a = p
    · rw [hne, upd_same] at h1
      cases h1
    · rw [upd_ne hne] at h1
      exact h1
  · by_cases hji : i = j
    · rw [List.getElem?_set, if_pos hji, if_pos hi]
      rw [← hji, h] at hj
      cases hj
      exact ⟨ds2, rfl⟩
    · exact ⟨ds', by rw [List.getElem?_set, if_neg hji]; exact hj⟩
  · rw [List.getElem?_set] at hj
    split at hj
    · cases hj
    · obtain ⟨v, s1, s2⟩ := r.val j d hj
      exact ⟨v, s1, dp_mono sm s2⟩
  · rw [List.getElem?_set] at hj
    split at hj
    · rename_i n1
      cases hj
      exact ⟨p, ys, by rw [← n1]; exact hp, upd_same, dpa_mono sm hd, q4⟩
    · rename_i n1
      obtain ⟨p', xs', s1, s2, s3, s4⟩ := r.own j c ds' hj
      have hne : p' ≠ p := fun q => n1 (r.sep i j b c ds ds' p h hj hp (by rw [← q]; exact s1))
      exact ⟨p', xs', s1, by rw [upd_ne hne]; exact s2, dpa_mono sm s3, s4⟩
  · have look : ∀ {j : Nat} {c : Bool} {d1 : List D}, (e.set i (some (.own b ds2)))[j]? = some (some (.own c d1)) → ∃ c' d', e[j]? = some (some (.own c' d')) := by
      intro j c d1 hj
      rw [List.getElem?_set] at hj
      split at hj
      · rename_i n1
        exact ⟨b, ds, by rw [← n1]; exact h⟩
      · exact ⟨c, d1, hj⟩
    obtain ⟨c1, f1, g1⟩ := look hj
    obtain ⟨c2, f2, g2⟩ := look hk
    exact r.sep j k c1 c2 f1 f2 q g1 g2 s1 s2
  · by_cases hne : a = p
    · rw [hne, upd_same]
      exact fun z => nomatch z
    · rw [upd_ne hne]
      exact r.frn a h1
  · rw [List.getElem?_set] at hj
    split at hj
    · cases hj
    · exact r.fnr j y hj
/-- x.append(e), x a list of one's own -/
def mAppend (i : Nat) (me : ME) : ME := fun e => match e[i]? with
  | some (some (.own _ _)) => (me e).bind fun r => match r.2[i]? with
    | some (some (.own b ds)) => if szOk ds.length = true then some (.none, r.2.set i (some (.own b (ds ++ [r.1])))) else none
    | _ => none
  | _ => none
theorem je_append (i : Nat) {x : Str} {p p2 : Pos} (ha : PE X a (tOf (X.fg tq) me)) (hN : X.N[i]? = some x := by rfl) (hv : Vis X.env.scope x := by first | exact Or.inl rfl | exact Or.inr (Or.inl rfl) | exact Or.inr (Or.inr rfl))
    (hd : (x == ("__debug__" : Str)) = false := by decide) (hcd : (x == ("__classdict__" : Str)) = false := by decide) (hbase : attributeBase (.Name x p2) "append" X.env (eval (.Name x p2) X.env) = eval (.Name x p2) X.env := by rfl)
    (hfew : ((backTo pos (starEach [a] X.env)).all (fun x => !x.1) && (backToKw pos (keywordEach [] X.env)).all (fun x => x.1.isSome) && decide ([a].length + ([] : List Keyword).length + (if ([] : List Keyword).isEmpty then 0 else 1) < 30)) = true := by rfl)
    (hline : (p.endLine == pos.line) = true := by rfl) (hs : starEach [a] X.env = (false, eval a X.env) :: starEach [] X.env := by rfl) (hplain : (backTo pos (starEach [] X.env)).any (·.1) = false := by rfl) :
    PE X (.Call (.Attribute (.Name x p2) "append" p) [a] [] pos) (tOf (X.fg tq) (mAppend i me)) := by
  refine PE.imp (pe_bm PySem.F.plainAttrs_list PySem.F.slot_list_append PySem.F.type_list_append mt_append (pe_var hN hv hd hcd) (pa_cons ha pa_nil hs) hbase hfew hline hs hplain) ?_
  rintro σ H Q ⟨G, e, d, e', rel, hm, k⟩
  unfold mAppend at hm
  split at hm
  · rename_i b0 ds0 h0
    obtain ⟨⟨d1, e1⟩, h1, hm⟩ := Option.bind_eq_some_iff.mp hm
    simp only at hm
    split at hm
    · rename_i b ds hj
      split at hm
      · rename_i hz
        cases hm
        obtain ⟨q, xs0, s1, hx0, _⟩ := rel.own i _ _ h0
        refine ⟨.ref q, s1, .inl ⟨rfl, _, .of hx0⟩, G, e, _, e1, rel, h1, fun v H1 st r1 dp => ?_⟩
        obtain ⟨q', xs, s2, hx, hd2, _⟩ := r1.own i _ _ hj
        rw [s1] at s2
        cases s2
        obtain ⟨st2, r2⟩ := own_write r1 hj s1 (dpa_app hd2 (.cons dp .nil))
        exact ⟨q, xs, v, rfl, rfl, hx, by rw [dpa_len hd2]; exact szOk_lt hz, k _ _ (st.trans st2) r2 .non⟩
      · cases hm
    · cases hm
  · cases hm
end
end PB

set_option maxHeartbeats 4000000
namespace PB
open PySem PySem.Spec PyProof.Rows L2

section
variable {K : Frag} {X : Cx} {a b : Expr} {me mi : ME} {ml : ML} {pos : Pos}
/-- x[i] = e, x a list of one's own -/
def sSetOwn (i : Nat) (mi me : ME) : MS := fun e => (me e).bind fun r => match r.2[i]? with
  | some (some (.own _ _)) => (mi r.2).bind fun q => match q.1, q.2[i]? with
    | .int k, some (some (.own c ds)) => (ixN ds.length k).map fun j => (.next, q.2.set i (some (.own c (ds.set j r.1))))
    | _, _ => none
  | _ => none
theorem js_setIx (i : Nat) {x : Str} {p p2 : Pos} (ha : PE X a (tOf (X.fg tq) me)) (hb : PE X b (tOf (X.fg tq) mi)) (hN : X.N[i]? = some x := by rfl) (hv : Vis X.env.scope x := by first | exact Or.inl rfl | exact Or.inr (Or.inl rfl) | exact Or.inr (Or.inr rfl))
    (hd : (x == ("__debug__" : Str)) = false := by decide) (hcd : (x == ("__classdict__" : Str)) = false := by decide)
    (hasg : ∀ v, assign (.Subscript (.Name x p) b p2) X.env v = (do
      let ov ← holding [v] (eval (.Name x p) X.env)
      let iv ← holding [v, ov] (eval b X.env)
      standAt p2
      holding [v, ov, iv] (setItem ov iv v)
      release [v, ov, iv] []) := by intro _; rfl)
    (hs : swapsWithSole [.Subscript (.Name x p) b p2] a pos.line X.env = pure false := by rfl) (hw : swappedStores [.Subscript (.Name x p) b p2] a X.env = pure none := by rfl) (h1 : (assignEach [.Subscript (.Name x p) b p2] X.env).map (·.2) = [assign (.Subscript (.Name x p) b p2) X.env] := by rfl) :
    PS X (.Assign [.Subscript (.Name x p) b p2] a pos) (tSOf (X.fg tq) (sSetOwn i mi me)) := by
  refine PS.imp (ps_asg ha (pg_sub (pe_var hN hv hd hcd) hb set_list hasg) hs hw h1) ?_
  rintro D σ H ⟨G, e, o, e', rel, hm, k⟩
  obtain ⟨⟨d1, e1⟩, h1, hm⟩ := Option.bind_eq_some_iff.mp hm
  simp only at hm
  split at hm
  · rename_i b0 ds0 h0
    obtain ⟨⟨d2, e2⟩, h2, hm⟩ := Option.bind_eq_some_iff.mp hm
    simp only at hm
    split at hm
    · rename_i kk c ds hj
      obtain ⟨j, hk, hm⟩ := Option.map_eq_some_iff.mp hm
      obtain ⟨rfl, rfl⟩ := Prod.mk.inj hm
      refine ⟨G, e, d1, e1, rel, h1, fun v H1 s1 r1 dp => ?_⟩
      obtain ⟨q, xs0, t1, _⟩ := r1.own i _ _ h0
      refine ⟨.ref q, t1, G, e1, _, e2, r1, h2, fun v2 H2 s2 r2 dp2 => ?_⟩
      cases dp2
      obtain ⟨q', xs, t2, hx, hd2, _⟩ := r2.own i _ _ hj
      rw [t1] at t2
      cases t2
      obtain ⟨st2, r3⟩ := own_write r2 hj t1 (dpa_set (dp_mono s2.vis dp) j hd2)
      exact ⟨q, xs, kk, j, rfl, rfl, hx, by rw [dpa_len hd2]; exact hk, k _ _ ((s1.trans s2).trans st2) r3⟩
    · cases hm
  · cases hm
theorem js_expr (ha : PE X a (tOf (X.fg tq) me)) (hs : swapsWith a none pos.line X.env = pure false := by rfl) : PS X (.Expr a pos) (tSOf (X.fg tq) (sDrop me)) := PS.imp (ps_expr ha hs) (by
  rintro D σ H ⟨G, e, o, e', rel, hm, k⟩
  obtain ⟨⟨d1, e1⟩, h1, hm⟩ := Option.map_eq_some_iff.mp hm
  obtain ⟨rfl, rfl⟩ := Prod.mk.inj hm
  exact ⟨G, e, d1, _, rel, h1, fun v H1 s1 r1 dp => k σ H1 s1 r1⟩)

/-! ### for -/
def forGo (bind : MG) (body : MS) : List D → Sg → Option (Out × Sg)
  | [], e => some (.next, e)
  | d :: ds, e => (bind d e).bind fun e1 => (body e1).bind fun r => match r.1 with
    | .next => forGo bind body ds r.2
    | .cont => forGo bind body ds r.2
    | .brk => some (.next, r.2)
    | .ret v => some (.ret v, r.2)
def sFor (mi : ML) (bind : MG) (body : MS) : MS := fun e => (mi e).bind fun it => forGo bind body it.1 it.2
theorem for_of {mi : ML} {bind : MG} {body : MS} {js : List Nat} : ∀ D σ H, tSOf K (sFor mi bind body) D σ H → tFor (tIOf K fl mi) (tGOf K fl js bind) (tSOf K body) D σ H := by
  rintro D σ H ⟨G, e, o, e', rel, hm, k⟩
  obtain ⟨⟨items, e1⟩, h1, hgo⟩ := Option.bind_eq_some_iff.mp hm
  refine ⟨G, e, items, e1, rel, h1, fun J H1 s1 r1 wk => ?_⟩
  have k1 : outs K G σ e1 H1 D o e' := outs_back s1 k
  refine ⟨fun i m σ' H' => m = items.length - i ∧ i ≤ items.length ∧ ∃ ei, Rel K G σ' H' ei ∧ Step σ e1 H1 σ' ei H' ∧ forGo bind body (items.drop i) ei = some (o, e'), ⟨items.length, by simp, Nat.zero_le _, e1, r1, .refl, by simpa using hgo⟩, ?_⟩
  rintro i m σ' H' ⟨rfl, hi, ei, ri, st, hgo'⟩
  have seen : Same (vis G σ e1 H1) (vis G σ' ei H') := st.vis
  by_cases hlt : i < items.length
  · refine .inr ⟨wk.go i H' (seen.trans same_cut) hlt, ?_⟩
    have hdrop : items.drop i = items[i] :: items.drop (i + 1) := List.drop_eq_getElem_cons hlt
    rw [hdrop] at hgo'
    unfold forGo at hgo'
    obtain ⟨e2, hb, hgo'⟩ := Option.bind_eq_some_iff.mp hgo'
    obtain ⟨⟨o3, e3⟩, ht, hgo'⟩ := Option.bind_eq_some_iff.mp hgo'
    refine ⟨fun σ2 H2 => ∃ m', m' < items.length - i ∧ (m' = items.length - (i + 1) ∧ i + 1 ≤ items.length ∧ ∃ ei, Rel K G σ2 H2 ei ∧ Step σ e1 H1 σ2 ei H2 ∧ forGo bind body (items.drop (i + 1)) ei = some (o, e')), fun σ2 H2 h => h, fun x H3 hy => ?_⟩
    obtain ⟨sm3, dx⟩ := wk.yld i H' (fun a => G a ∨ Own σ' ei a) x H3 items[i] seen ri.ne0 (List.getElem?_eq_getElem hlt) hy
    refine ⟨G, ei, items[i], e2, ri.grow sm3, dx, hb, fun σ2 k2 l2 s2 r2 => ⟨G, e2, o3, e3, r2, ht, ?_⟩⟩
    have g2 : Step σ e1 H1 σ2 e2 H3 := (st.trans (Step.grow (e := ei) sm3)).trans s2
    cases o3 with
    | next => exact fun σ4 H4 s4 r4 => ⟨items.length - (i + 1), by omega, rfl, by omega, e3, r4, g2.trans s4, hgo'⟩
    | cont => exact fun σ4 H4 s4 r4 => ⟨items.length - (i + 1), by omega, rfl, by omega, e3, r4, g2.trans s4, hgo'⟩
    | brk =>
      cases hgo'
      exact fun σ4 H4 s4 r4 => k1 σ4 H4 (g2.trans s4) r4
    | ret v =>
      cases hgo'
      exact fun v σ4 H4 s4 r4 q => k1 v σ4 H4 (g2.trans s4) r4 (q.back g2.there)
  · have hi2 : i = items.length := by omega
    refine .inl ⟨wk.stop i H' (seen.trans same_cut) (by omega), ?_⟩
    rw [hi2, List.drop_length] at hgo'
    cases hgo'
    exact k1 σ' H' st ri
theorem js_for {tg iter : Expr} {body : List Stmt} {bind : MG} {mb : MS} {js : List Nat} (hp : PassesOwn (model X.prog X.w) X.A X.env X.xe) (hc : X.calm = true) (hi : PI X tg iter (tIOf (X.fg tq) fl ml)) (hg : PG X tg (tGOf (X.fg tq) fl js bind)) (hb : PSs X body (tSOf (X.fg tq) mb))
    (hs : ∀ x, foldedSetIterable iter X.env x = pure x := by intro _; rfl) : PS X (.For tg iter body [] pos) (tSOf (X.fg tq) (sFor ml bind mb)) := PS.imp (ps_for hp hc hi hg hb hs) for_of

/-! ### while, by so many turns at most -/
def whileGo (t : MT) (body : MS) : Nat → Sg → Option (Out × Sg)
  | 0, _ => none
  | n + 1, e => (t e).bind fun c => if c.1 = true then (body c.2).bind fun r => (match r.1 with
    | .next => whileGo t body n r.2
    | .cont => whileGo t body n r.2
    | .brk => some (.next, r.2)
    | .ret v => some (.ret v, r.2)) else some (.next, c.2)
theorem while_of {t : MT} {body : MS} {n : Nat} : ∀ D σ H, tSOf K (whileGo t body n) D σ H → tWhile (tTOf K t) (tSOf K body) D σ H := by
  rintro D σ H ⟨G, e, o, e', rel, hgo, k⟩
  refine ⟨fun m σ' H' => ∃ ei, Rel K G σ' H' ei ∧ Step σ e H σ' ei H' ∧ whileGo t body m ei = some (o, e'), ⟨n, e, rel, .refl, hgo⟩, ?_⟩
  rintro m σ' H' ⟨ei, ri, st, hgo'⟩
  cases m with
  | zero => cases hgo'
  | succ m =>
    unfold whileGo at hgo'
    obtain ⟨⟨c, e2⟩, hc, hgo'⟩ := Option.bind_eq_some_iff.mp hgo'
    refine ⟨G, ei, c, e2, ri, hc, fun H2 s2 r2 => ?_⟩
    have g2 := st.trans s2
    cases c with
    | true =>
      rw [if_pos rfl] at hgo'
      obtain ⟨⟨o3, e3⟩, hb, hgo'⟩ := Option.bind_eq_some_iff.mp hgo'
      refine iteT ⟨fun σ3 H3 => ∃ m', m' < m + 1 ∧ ∃ ei, Rel K G σ3 H3 ei ∧ Step σ e H σ3 ei H3 ∧ whileGo t body m' ei = some (o, e'), fun _ _ h => h, G, e2, o3, e3, r2, hb, ?_⟩
      cases o3 with
      | next => exact fun σ4 H4 s4 r4 => ⟨m, by omega, e3, r4, g2.trans s4, hgo'⟩
      | cont => exact fun σ4 H4 s4 r4 => ⟨m, by omega, e3, r4, g2.trans s4, hgo'⟩
      | brk =>
        cases hgo'
        exact fun σ4 H4 s4 r4 => k σ4 H4 (g2.trans s4) r4
      | ret v =>
        cases hgo'
        exact fun v σ4 H4 s4 r4 q => k v σ4 H4 (g2.trans s4) r4 (q.back g2.there)
    | false =>
      rw [if_neg Bool.false_ne_true] at hgo'
      cases hgo'
      exact iteF (k σ' H2 g2 r2)
theorem js_while {c : Expr} {body : List Stmt} {t : MT} {mb : MS} (n : Nat) (hp : PassesOwn (model X.prog X.w) X.A X.env X.xe) (hc : PT X c (tTOf (X.fg tq) t)) (hb : PSs X body (tSOf (X.fg tq) mb)) : PS X (.While c body [] pos) (tSOf (X.fg tq) (whileGo t mb n)) := PS.imp (ps_while hp hc hb) while_of
end

/-! ### defs -/
abbrev Fp := List D → Option Rt
abbrev Fk := List D → List D → Option (Rt × List D)
def spP (K : Frag) (n : Nat) (f : Fp) : Sp := fun vs H Q _ => ∃ (G : Addr → Prop) (ds : List D) (r : Rt), (∀ a, G a → H a ≠ none) ∧ DpAll K (cut H G) vs ds ∧ ds.length = n ∧ f ds = some r ∧ LamX.Tabs K.T H ∧ ∀ v H', ExtT H H' → LamX.Tabs K.T H' → RtRel K G H H' v r → Q v H'
/-- the first argument is a list that may be changed -/
def spK (K : Frag) (n : Nat) (f : Fk) : Sp := fun vs H Q _ => ∃ (G : Addr → Prop) (p : Addr) (xs : List V) (vs' : List V) (ds0 ds ds1 : List D) (r : Rt), vs = .ref p :: vs' ∧ H p = some (.lst xs) ∧ ¬ G p ∧ (∀ a, G a → H a ≠ none) ∧
  DpAll K (cut H (fun a => G a ∨ a = p)) xs ds0 ∧ DpAll K (cut H (fun a => G a ∨ a = p)) vs' ds ∧ ds.length + 1 = n ∧ f ds0 ds = some (r, ds1) ∧ LamX.Tabs K.T H ∧
  ∀ v H' xs', (∀ a o, H a = some o → a ≠ p → isT o = false → H' a = some o) → (∀ a, H' a = none → H a = none) → LamX.Tabs K.T H' → H' p = some (.lst xs') → DpAll K (cut H' (fun a => G a ∨ a = p)) xs' ds1 → RtRel K (fun a => G a ∨ a = p) H H' v r → Q v H'
def startE (n : Nat) (ds : List D) : Sg := ds.map (fun d => some (.val d)) ++ List.replicate (n - ds.length) none
def runP (n : Nat) (M : MS) : Fp := fun ds => match M (startE n ds) with
  | some (.ret r, _) => some r
  | some (.next, _) => some (.val .none)
  | _ => none
def startK (n : Nat) (ds0 ds : List D) : Sg := some (.own true ds0) :: (ds.map (fun d => some (.val d)) ++ List.replicate (n - 1 - ds.length) none)
def runK (n : Nat) (M : MS) : Fk := fun ds0 ds => match M (startK n ds0 ds) with
  | some (.ret r, e) => match (e[0]? : Option (Option Sl)) with
    | some (some (.own true ds1)) => some (r, ds1)
    | _ => none
  | some (.next, e) => match (e[0]? : Option (Option Sl)) with
    | some (some (.own true ds1)) => some (.val .none, ds1)
    | _ => none
  | _ => none
theorem startE_get {n : Nat} {ds : List D} {i : Nat} {s : Sl} (h : (startE n ds)[i]? = some (some s)) : ∃ d, ds[i]? = some d ∧ s = .val d := by
  unfold startE at h
  rw [List.getElem?_append] at h
  split at h
  · rename_i hi
    rw [List.length_map] at hi
    rw [List.getElem?_map, List.getElem?_eq_getElem hi] at h
    cases h
    exact ⟨_, List.getElem?_eq_getElem hi, rfl⟩
  · rw [List.getElem?_replicate] at h
    split at h <;> cases h
theorem start_get {N : List Str} {vs : List V} {i : Nat} {v : V} (h : vs[i]? = some v) : (start N vs)[i]? = some (some v) := by
  unfold L2.start
  have hi : i < vs.length := (List.getElem?_eq_some_iff.mp h).1
  rw [List.getElem?_append_left (by rw [List.length_map]; exact hi), List.getElem?_map, h]
  rfl
section
variable {K : Frag} {X : Cx}
theorem RtRel.mono {F F' : Addr → Prop} {H H' : Hp} {v : V} {r : Rt} (h : ∀ a, F' a → F a) (q : RtRel K F H H' v r) : RtRel K F' H H' v r := by
  have sm : ∀ {A B : Addr → Prop}, (∀ a, B a → A a) → Same (cut H' A) (cut H' B) := fun hh a o q => cut_of (fun w => (cut_mp q).1 (hh a w)) (cut_mp q).2
  cases r with
  | val d => exact dp_mono (sm h) q
  | new ds =>
    obtain ⟨p, xs, h1, h2, h3, h4⟩ := q
    exact ⟨p, xs, h1, h2, h3, dpa_mono (sm fun a w => w.elim (fun z => .inl (h a z)) .inr) h4⟩
theorem fn_pure {P : Program} {w : World} {mg : Str → Option Value} {base : Heap} {x : Str} {st : Stmt} {f : Addr} {fd : FuncData} {N ps : List Str} {k : Nat} {M : MS} (F : Fun K x x st f fd) (S : FnScope N ps (defScope st)) (hNl : ps.length ≤ N.length)
    (hb : ∀ (cdv : Value) (A : Around) (outer : List Env) (s : Shared) (H : Hp) (E : XK), Room k (A.deeper (envOfC x (defScope st) s.heap.objs.size f cdv)) → PSs (cxOf CX0 P w K mg base N x (defScope st) f cdv A outer s H E).nox (defBody st) (tSOf K M)) :
    FnOk P w K mg base CX0 (k + 1) f fd ps (spP K ps.length (runP N.length M)) := by
  refine F.ok S (fun vs H Q E h => ?_) (fun cdv A outer s H vs Q E hr h => ⟨_, hb cdv A outer s H E hr, ?_⟩)
  · obtain ⟨G, ds, r, _, h2, h3, _⟩ := h
    rw [dpa_len h2, h3]
  · obtain ⟨G, ds, r, hG, hd, hl, hf, ht, q⟩ := h
    have e0 : ∀ a, ¬ Own (start N vs) (startE N.length ds) a := by
      rintro a ⟨i, b, ds', h1, _⟩
      obtain ⟨d, _, z⟩ := startE_get h1
      cases z
    have sm : Same (cut H G) (vis G (start N vs) (startE N.length ds) H) := fun a o h => cut_of (fun w => w.elim (cut_mp h).1 (e0 a)) (cut_mp h).2
    have lv := dpa_len hd
    have rel : Rel K G (start N vs) H (startE N.length ds) := by
      refine ⟨?_, fun i d h => ?_, fun i b ds' h => ?_, fun i j b c ds' es p h => ?_, hG, ht, fun i y h => ?_⟩
      · unfold L2.start startE
        simp only [List.length_append, List.length_map, List.length_replicate]
        omega
      · obtain ⟨d', h1, h2⟩ := startE_get h
        cases h2
        obtain ⟨v, h3, h4⟩ := dpa_get hd h1
        exact ⟨v, start_get h3, dp_mono sm h4⟩
      · obtain ⟨d', h1, h2⟩ := startE_get h
        cases h2
      · obtain ⟨d', h1, h2⟩ := startE_get h
        cases h2
      · obtain ⟨d', h1, h2⟩ := startE_get h
        cases h2
    have keepS : ∀ {σ' : SS} {e' : Sg} {H' : Hp}, Step (start N vs) (startE N.length ds) H σ' e' H' → ExtT H H' := fun s => ⟨fun a o h nt => s.keep a o h (e0 a) nt, s.there⟩
    unfold runP at hf
    split at hf
    · rename_i r' e' hm
      cases hf
      exact ⟨G, _, _, _, rel, hm, fun v σ' H' s rl rr => q v H' (keepS s) rl.tab (rr.mono fun a w => .inl w)⟩
    · rename_i e' hm
      cases hf
      exact ⟨G, _, _, _, rel, hm, fun σ' H' s rl => q _ H' (keepS s) rl.tab .non⟩
    · cases hf
theorem fn_deck {P : Program} {w : World} {mg : Str → Option Value} {base : Heap} {x : Str} {st : Stmt} {f : Addr} {fd : FuncData} {N ps : List Str} {k : Nat} {M : MS} (F : Fun K x x st f fd) (S : FnScope N ps (defScope st)) (hNl : ps.length ≤ N.length)
    (hb : ∀ (cdv : Value) (A : Around) (outer : List Env) (s : Shared) (H : Hp) (E : XK), Room k (A.deeper (envOfC x (defScope st) s.heap.objs.size f cdv)) → PSs (cxOf CX0 P w K mg base N x (defScope st) f cdv A outer s H E).nox (defBody st) (tSOf K M)) :
    FnOk P w K mg base CX0 (k + 1) f fd ps (spK K ps.length (runK N.length M)) := by
  refine F.ok S (fun vs H Q E h => ?_) (fun cdv A outer s H vs Q E hr h => ⟨_, hb cdv A outer s H E hr, ?_⟩)
  · obtain ⟨G, p, xs, vs', ds0, ds, ds1, r, rfl, _, _, _, _, h2, h3, _⟩ := h
    rw [List.length_cons, dpa_len h2, h3]
  · obtain ⟨G, p, xs, vs', ds0, ds, ds1, r, rfl, hx, hGp, hG, hd0, hd, hl, hf, ht, q⟩ := h
    have lv := dpa_len hd
    have e1 : ∀ {i : Nat} {s : Sl}, (startK N.length ds0 ds)[i]? = some (some s) → (i = 0 ∧ s = .own true ds0) ∨ ∃ j d, i = j + 1 ∧ ds[j]? = some d ∧ s = .val d := by
      intro i s h
      cases i with
      | zero =>
        cases h
        exact .inl ⟨rfl, rfl⟩
      | succ j =>
        have h' : (startE (N.length - 1) ds)[j]? = some (some s) := h
        obtain ⟨d, h1, h2⟩ := startE_get h'
        exact .inr ⟨j, d, rfl, h1, h2⟩
    have e0 : ∀ a, Own (start N (.ref p :: vs')) (startK N.length ds0 ds) a ↔ a = p := by
      intro a
      constructor
      · rintro ⟨i, b, ds', h1, h2⟩
        rcases e1 h1 with ⟨rfl, _⟩ | ⟨j, d, _, _, z⟩
        · cases h2
          rfl
        · cases z
      · rintro rfl
        exact ⟨0, true, ds0, rfl, rfl⟩
    have sm : Same (cut H (fun a => G a ∨ a = p)) (vis G (start N (.ref p :: vs')) (startK N.length ds0 ds) H) := fun a o h => cut_of (fun w => (cut_mp h).1 (w.imp id (e0 a).mp)) (cut_mp h).2
    have rel : Rel K G (start N (.ref p :: vs')) H (startK N.length ds0 ds) := by
      refine ⟨?_, fun i d h => ?_, fun i b ds' h => ?_, fun i j b c ds' es p' h1 h2 _ _ => ?_, hG, ht, fun i y h => ?_⟩
      · unfold L2.start startK
        simp only [List.length_append, List.length_map, List.length_replicate, List.length_cons]
        omega
      · rcases e1 h with ⟨_, z⟩ | ⟨j, d', rfl, h1, h2⟩
        · cases z
        · cases h2
          obtain ⟨v, h3, h4⟩ := dpa_get hd h1
          exact ⟨v, start_get (vs := .ref p :: vs') (by rw [List.getElem?_cons_succ]; exact h3), dp_mono sm h4⟩
      · rcases e1 h with ⟨rfl, z⟩ | ⟨j, d', rfl, h1, h2⟩
        · cases z
          exact ⟨p, xs, rfl, hx, dpa_mono sm hd0, hGp⟩
        · cases h2
      · rcases e1 h1 with ⟨rfl, _⟩ | ⟨j', d', _, _, z⟩
        · rcases e1 h2 with ⟨rfl, _⟩ | ⟨j', d', _, _, z⟩
          · rfl
          · cases z
        · cases z
      · rcases e1 h with ⟨_, z⟩ | ⟨j, d', _, _, z⟩
        · cases z
        · cases z
    have fin : ∀ {v : V} {σ' : SS} {e' : Sg} {H' : Hp} {r' : Rt}, Step (start N (.ref p :: vs')) (startK N.length ds0 ds) H σ' e' H' → Rel K G σ' H' e' → e'[0]? = some (some (.own true ds1)) → RtRel K (fun a => G a ∨ Own σ' e' a) H H' v r' → r' = r → Q v H' := by
      intro v σ' e' H' r' s rr h0 q' er
      subst er
      obtain ⟨t1, ds', t2⟩ := s.par 0 ds0 rfl
      have t1' : σ'[0]? = some (some (.ref p)) := t1
      obtain ⟨p', xs', u1, u2, u3, u4⟩ := rr.own 0 true ds1 h0
      rw [t1'] at u1
      cases u1
      have ow : Own σ' e' p := ⟨0, true, ds1, h0, t1'⟩
      refine q v H' xs' (fun a o h n nt => s.keep a o h (fun w => n ((e0 a).mp w)) nt) s.there rr.tab u2 (dpa_mono ?_ u3) (q'.mono fun a w => w.imp id (fun z => by rw [z]; exact ow))
      exact fun a o h => cut_of (fun w => (cut_mp h).1 (w.imp id (fun z => by rw [z]; exact ow))) (cut_mp h).2
    unfold runK at hf
    split at hf
    · rename_i r' e' hm
      split at hf
      · rename_i ds1' h0
        cases hf
        exact ⟨G, _, _, _, rel, hm, fun v σ' H' s rr q' => fin s rr h0 q' rfl⟩
      · cases hf
    · rename_i e' hm
      split at hf
      · rename_i ds1' h0
        cases hf
        exact ⟨G, _, _, _, rel, hm, fun σ' H' s rr => fin (r' := .val .none) s rr h0 .non rfl⟩
      · cases hf
    · cases hf
end
end PB

set_option maxHeartbeats 4000000
namespace PB
open PySem PySem.Spec PyProof.Rows L2

structure DefAt (K : PySem.W.Frag) (mg : Str → Option Value) (x : Str) (st : Stmt) : Prop where
  ex : ∃ f fd, Fun K x x st f fd ∧ mg x = some (.ref f)
structure DefOk (P : Program) (w : World) (K : PySem.W.Frag) (mg : Str → Option Value) (base : Heap) (k : Nat) (x : Str) (sp : Sp) : Prop where
  ex : ∃ f fd ps, FnOk P w K mg base CX0 k f fd ps sp ∧ mg x = some (.ref f) ∧ PySem.W.keepIn K (.ref f) = true ∧ Binds K fd ps []
theorem DefOk.mono {P : Program} {w : World} {K : PySem.W.Frag} {mg : Str → Option Value} {base : Heap} {j k : Nat} {x : Str} {sp : Sp} (h : DefOk P w K mg base j x sp) (hk : j ≤ k) : DefOk P w K mg base k x sp := by
  obtain ⟨f, fd, ps, h1, h2⟩ := h.ex
  exact ⟨f, fd, ps, h1.mono hk, h2⟩
def toD : Rt → D
  | .val d => d
  | .new ds => .list ds
def mCall (n : Nat) (f : Fp) (ms : ML) : ME := fun e => (ms e).bind fun r => if r.1.length = n then (f r.1).map fun x => (toD x, r.2) else none
def mCallN (n : Nat) (f : Fp) (ms : ML) : ML := fun e => (ms e).bind fun r => if r.1.length = n then (f r.1).bind fun x => (match x with
  | .new ds => some (ds, r.2)
  | .val _ => none) else none
def mCallK (i n : Nat) (f : Fk) (ms : ML) : ME := fun e => match e[i]? with
  | some (some (.own _ _)) => (ms e).bind fun r => match r.2[i]? with
    | some (some (.own b ds0)) => if r.1.length + 1 = n then (f ds0 r.1).map fun x => (toD x.1, r.2.set i (some (.own b x.2))) else none
    | _ => none
  | _ => none
section
variable {K : Frag} {X : Cx} {G : Addr → Prop} {σ : SS} {H H' : Hp} {e : Sg} {a : Expr} {es : List Expr} {ms : ML} {x : Str} {p pos : Pos} {k n : Nat} {f : Fp} {fk : Fk}
theorem RtRel.toD {F : Addr → Prop} {v : V} {r : Rt} (hF : ∀ a, F a → H a ≠ none) (q : RtRel K F H H' v r) : Dp K (cut H' F) v (toD r) := by
  cases r with
  | val d => exact q
  | new ds =>
    obtain ⟨p, xs, rfl, h2, h3, h4⟩ := q
    refine .lst (.of (cut_of (fun w => hF p w h2) h3)) (dpa_mono ?_ h4)
    exact fun a o h => cut_of (fun w => (cut_mp h).1 (.inl w)) (cut_mp h).2
theorem je_call (o : DefOk X.prog X.w (X.fg tq) X.mg X.base k x (spP (X.fg tq) n f)) (hr : Room k X.A) (hg : Gl X x) (ha : PA X (a :: es) (tAOf (X.fg tq) ms)) (hdb : (x == ("__debug__" : Str)) = false := by decide)
    (he : starEach (a :: es) X.env = (false, eval a X.env) :: starEach es X.env := by rfl) (hpl : (backTo pos (starEach es X.env)).any (·.1) = false := by rfl) : PE X (.Call (.Name x p) (a :: es) [] pos) (tOf (X.fg tq) (mCall n f ms)) := by
  obtain ⟨fa, fd, ps, h1, h2, h3, h4⟩ := o.ex
  refine PE.imp (pe_call (E := E0) h1 hr hg h2 h3 h4 .nil pass0 ha hdb he hpl) ?_
  rintro σ H Q ⟨G, e, d, e', rel, hm, k⟩
  obtain ⟨⟨ds, e1⟩, q1, hm⟩ := Option.bind_eq_some_iff.mp hm
  simp only at hm
  split at hm
  · rename_i hn
    obtain ⟨r, q2, hm⟩ := Option.map_eq_some_iff.mp hm
    obtain ⟨rfl, rfl⟩ := Prod.mk.inj hm
    refine ⟨G, e, ds, _, rel, q1, fun vs H1 s1 r1 dps => ?_⟩
    show spP _ _ _ (vs ++ []) _ _ _
    rw [List.append_nil]
    exact ⟨fun a => G a ∨ Own σ _ a, ds, r, r1.ne0, dps, hn, q2, r1.tab, fun v H2 sm tt rr => k v H2 (s1.trans (.growT sm)) (r1.growT sm tt) (rr.toD r1.ne0)⟩
  · cases hm
theorem Rel.foreign' {Dl : Addr} (r : Rel K G σ H e) (s : ExtT H H') (tt : LamX.Tabs K.T H') (hD : H Dl = none) (hx : H' Dl ≠ none) : Rel K (fun a => G a ∨ a = Dl) σ H' e := by
  have sm : Same (vis G σ e H) (vis (fun a => G a ∨ a = Dl) σ e H') := fun a u h => by
    obtain ⟨h1, h2⟩ := cut_mp h
    have hne : a ≠ Dl := ne_of_none h2 hD
    refine cut_of ?_ (s.keep a u h2 (cut_nt h)) (cut_nt h)
    rintro ((w | w) | w)
    · exact h1 (.inl w)
    · exact hne w
    · exact h1 (.inr w)
  refine ⟨r.len, fun i d h => ?_, fun i b ds h => ?_, r.sep, fun a h q => ?_, tt, r.fnr⟩
  · obtain ⟨v, h1, h2⟩ := r.val i d h
    exact ⟨v, h1, dp_mono sm h2⟩
  · obtain ⟨p, xs, h1, h2, h3, h4⟩ := r.own i b ds h
    have hne : p ≠ Dl := ne_of_none h2 hD
    exact ⟨p, xs, h1, s.keep _ _ h2 rfl, dpa_mono sm h3, fun w => w.elim h4 hne⟩
  · rcases h with h | h
    · exact r.frn a h (s.there a q)
    · rw [h] at q
      exact hx q
theorem jn_call (o : DefOk X.prog X.w (X.fg tq) X.mg X.base k x (spP (X.fg tq) n f)) (hr : Room k X.A) (hg : Gl X x) (ha : PA X (a :: es) (tAOf (X.fg tq) ms)) (hdb : (x == ("__debug__" : Str)) = false := by decide)
    (he : starEach (a :: es) X.env = (false, eval a X.env) :: starEach es X.env := by rfl) (hpl : (backTo pos (starEach es X.env)).any (·.1) = false := by rfl) : PE X (.Call (.Name x p) (a :: es) [] pos) (tNOf (X.fg tq) (mCallN n f ms)) := by
  obtain ⟨fa, fd, ps, h1, h2, h3, h4⟩ := o.ex
  refine PE.imp (pe_call (E := E0) h1 hr hg h2 h3 h4 .nil pass0 ha hdb he hpl) ?_
  rintro σ H Q ⟨G, e, d, e', rel, hm, k⟩
  obtain ⟨⟨ds, e1⟩, q1, hm⟩ := Option.bind_eq_some_iff.mp hm
  simp only at hm
  split at hm
  · rename_i hn
    obtain ⟨r, q2, hm⟩ := Option.bind_eq_some_iff.mp hm
    split at hm
    · cases hm
      refine ⟨G, e, ds, _, rel, q1, fun vs H1 s1 r1 dps => ?_⟩
      show spP _ _ _ (vs ++ []) _ _ _
      rw [List.append_nil]
      refine ⟨fun a => G a ∨ Own σ _ a, ds, _, r1.ne0, dps, hn, q2, r1.tab, fun v H2 sm tt rr => ?_⟩
      obtain ⟨p, xs, rfl, u2, u3, u4⟩ := rr
      refine k p xs H2 (s1.trans (.growT sm)) (r1.foreign' sm tt u2 (by rw [u3]; exact fun z => nomatch z)) (s1.there p u2) u3 (dpa_mono ?_ u4)
      intro a o h
      obtain ⟨w1, w2⟩ := cut_mp h
      refine cut_of ?_ w2
      rintro ((w | w) | w)
      · exact w1 (.inl (.inl w))
      · exact w1 (.inr w)
      · exact w1 (.inl (.inr w))
    · cases hm
  · cases hm
theorem callK_of {i : Nat} : ∀ σ H Q, tOf K (mCallK i n fk ms) σ H Q → tCall (spK K n fk) [] E0 (tCons (tVar i) (tAOf K ms)) σ H Q := by
  rintro σ H Q ⟨G, e, d, e', rel, hm, k⟩
  unfold mCallK at hm
  split at hm
  · rename_i b0 ds00 h0
    obtain ⟨⟨ds, e1⟩, q1, hm⟩ := Option.bind_eq_some_iff.mp hm
    simp only at hm
    split at hm
    · rename_i b ds0 hj
      split at hm
      · rename_i hn
        obtain ⟨⟨r, ds1⟩, q2, hm⟩ := Option.map_eq_some_iff.mp hm
        obtain ⟨rfl, rfl⟩ := Prod.mk.inj hm
        obtain ⟨q, xs0, s1, _⟩ := rel.own i _ _ h0
        refine ⟨.ref q, s1, G, e, ds, e1, rel, q1, fun vs H1 st r1 dps => ?_⟩
        obtain ⟨q', xs, s2, hx, hd2, hGq⟩ := r1.own i _ _ hj
        rw [s1] at s2
        cases s2
        have ow : Own σ e1 q := ⟨i, b, ds0, hj, s1⟩
        have sm0 : Same (vis G σ e1 H1) (cut H1 (fun a => (G a ∨ (Own σ e1 a ∧ a ≠ q)) ∨ a = q)) := fun a o h => by
          obtain ⟨w1, w2⟩ := cut_mp h
          refine cut_of ?_ w2
          rintro ((w | w) | w)
          · exact w1 (.inl w)
          · exact w1 (.inr w.1)
          · exact w1 (.inr (by rw [w]; exact ow))
        show spK _ _ _ ((.ref q :: vs) ++ []) _ _ _
        rw [List.append_nil]
        refine ⟨fun a => G a ∨ (Own σ e1 a ∧ a ≠ q), q, xs, vs, ds0, ds, ds1, r, rfl, hx, fun w => w.elim hGq fun z => z.2 rfl, fun a w => r1.ne0 a (w.imp id (·.1)), dpa_mono sm0 hd2, dpa_mono sm0 dps, hn, q2, r1.tab, fun v H2 xs' keep there tt hx' hd' rr => ?_⟩
        -- the heap behind, with the list as it was
        have hup : upd (upd H2 q (.lst xs)) q (.lst xs') = H2 := by
          rw [upd_upd]
          funext c
          by_cases hc : c = q
          · rw [hc, upd_same, hx']
          · rw [upd_ne hc]
        have smG : ExtT H1 (upd H2 q (.lst xs)) := ⟨fun c o h nt => by
          by_cases hc : c = q
          · rw [hc, hx] at h
            cases h
            rw [hc, upd_same]
          · rw [upd_ne hc]
            exact keep c o h hc nt, fun c h => by
          by_cases hc : c = q
          · rw [hc, upd_same] at h
            cases h
          · rw [upd_ne hc] at h
            exact there c h⟩
        have r2 := r1.growT smG (tabs_lst tt hx')
        have smV : Same (cut H2 (fun a => (G a ∨ (Own σ e1 a ∧ a ≠ q)) ∨ a = q)) (vis G σ e1 (upd H2 q (.lst xs))) := fun c o h => by
          obtain ⟨w1, w2⟩ := cut_mp h
          have hc : c ≠ q := fun z => w1 (.inr z)
          refine cut_of ?_ (by rw [upd_ne hc]; exact w2)
          rintro (w | w)
          · exact w1 (.inl (.inl w))
          · exact w1 (.inl (.inr ⟨w, hc⟩))
        obtain ⟨st2, r3⟩ := own_write r2 hj s1 (dpa_mono smV hd')
        rw [hup] at st2 r3
        refine k v H2 ((st.trans (.growT smG)).trans st2) r3 (dp_mono ?_ (rr.toD fun a w => ?_))
        · intro c o h
          have h' := smV c o h
          exact (Step.vis (G := G) st2) c o h'
        · rcases w with w | w
          · exact r1.ne0 a (w.imp id (·.1))
          · rw [w, hx]
            exact fun z => nomatch z
      · cases hm
    · cases hm
  · cases hm
/-- f(deck, ..) -/
theorem je_callK (i : Nat) {y : Str} {py : Pos} (o : DefOk X.prog X.w (X.fg tq) X.mg X.base k x (spK (X.fg tq) n fk)) (hr : Room k X.A) (hg : Gl X x) (ha : PA X es (tAOf (X.fg tq) ms)) (hN : X.N[i]? = some y := by rfl)
    (hv : Vis X.env.scope y := by first | exact Or.inl rfl | exact Or.inr (Or.inl rfl) | exact Or.inr (Or.inr rfl)) (hd : (y == ("__debug__" : Str)) = false := by decide) (hcd : (y == ("__classdict__" : Str)) = false := by decide) (hdb : (x == ("__debug__" : Str)) = false := by decide)
    (he : starEach (.Name y py :: es) X.env = (false, eval (.Name y py) X.env) :: starEach es X.env := by rfl) (hpl : (backTo pos (starEach es X.env)).any (·.1) = false := by rfl) : PE X (.Call (.Name x p) (.Name y py :: es) [] pos) (tOf (X.fg tq) (mCallK i n fk ms)) := by
  obtain ⟨fa, fd, ps, h1, h2, h3, h4⟩ := o.ex
  exact PE.imp (pe_call (E := E0) h1 hr hg h2 h3 h4 .nil pass0 (pa_cons (pe_var hN hv hd hcd) ha he) hdb he hpl) callK_of
end
/-! ### a def keeps what its text does -/
section
variable {P : Program} {w : World} {K : PySem.W.Frag} {mg : Str → Option Value} {base : Heap} {x : Str} {st : Stmt} {N ps : List Str} {k : Nat} {M : MS}
theorem def_pure (d : DefAt K mg x st) (S : FnScope N ps (defScope st)) (hNl : ps.length ≤ N.length)
    (bd : ∀ (kV doc pm : Value) (an : Option Addr) (cdv ct : Value) (us : List Value), us.length = ps.length → bindArgs (PySem.W.fnOf x x (defArgs st) (defBody st) (defScope st) .none kV doc pm an cdv ct) ⟨us, []⟩ = pure (ps.zip us))
    (hb : ∀ (f : Addr) (cdv : Value) (A : Around) (outer : List Env) (s : Shared) (H : Hp) (E : XK), Room k (A.deeper (envOfC x (defScope st) s.heap.objs.size f cdv)) → PSs (cxOf CX0 P w K mg base N x (defScope st) f cdv A outer s H E).nox (defBody st) (tSOf (fg K P w tq) M)) :
    DefOk P w K mg base (k + 1) x (spP (fg K P w tq) ps.length (runP N.length M)) := by
  obtain ⟨f, fd, F, g⟩ := d.ex
  exact ⟨f, fd, ps, fn_pure (K := fg K P w tq) F S hNl (hb f), g, F.kp, F.binds bd⟩
theorem def_deck (d : DefAt K mg x st) (S : FnScope N ps (defScope st)) (hNl : ps.length ≤ N.length)
    (bd : ∀ (kV doc pm : Value) (an : Option Addr) (cdv ct : Value) (us : List Value), us.length = ps.length → bindArgs (PySem.W.fnOf x x (defArgs st) (defBody st) (defScope st) .none kV doc pm an cdv ct) ⟨us, []⟩ = pure (ps.zip us))
    (hb : ∀ (f : Addr) (cdv : Value) (A : Around) (outer : List Env) (s : Shared) (H : Hp) (E : XK), Room k (A.deeper (envOfC x (defScope st) s.heap.objs.size f cdv)) → PSs (cxOf CX0 P w K mg base N x (defScope st) f cdv A outer s H E).nox (defBody st) (tSOf (fg K P w tq) M)) :
    DefOk P w K mg base (k + 1) x (spK (fg K P w tq) ps.length (runK N.length M)) := by
  obtain ⟨f, fd, F, g⟩ := d.ex
  exact ⟨f, fd, ps, fn_deck (K := fg K P w tq) F S hNl (hb f), g, F.kp, F.binds bd⟩
end
end PB
namespace PB
open PySem PySem.Spec PyProof.Rows L2
section
variable {P : Program} {w : World} {K : PySem.W.Frag} {mg : Str → Option Value} {base : Heap} {x : Str} {st : Stmt} {ps : List Str} {k n : Nat}
theorem def_noneK (d : DefAt K mg x st)
    (bd : ∀ (kV doc pm : Value) (an : Option Addr) (cdv ct : Value) (us : List Value), us.length = ps.length → bindArgs (PySem.W.fnOf x x (defArgs st) (defBody st) (defScope st) .none kV doc pm an cdv ct) ⟨us, []⟩ = pure (ps.zip us)) :
    DefOk P w K mg base k x (spK (fg K P w tq) n fun _ _ => none) := by
  obtain ⟨f, fd, F, g⟩ := d.ex
  refine ⟨f, fd, ps, ⟨fun vs H Q E h => ?_, fun A outer s H args us vs Q E _ _ _ _ h => ?_⟩, g, F.kp, F.binds bd⟩
  · obtain ⟨_, _, _, _, _, _, _, _, _, _, _, _, _, _, _, h, _⟩ := h
    cases h
  · obtain ⟨_, _, _, _, _, _, _, _, _, _, _, _, _, _, _, h, _⟩ := h
    cases h
theorem def_noneP (d : DefAt K mg x st)
    (bd : ∀ (kV doc pm : Value) (an : Option Addr) (cdv ct : Value) (us : List Value), us.length = ps.length → bindArgs (PySem.W.fnOf x x (defArgs st) (defBody st) (defScope st) .none kV doc pm an cdv ct) ⟨us, []⟩ = pure (ps.zip us)) :
    DefOk P w K mg base k x (spP (fg K P w tq) n fun _ => none) := by
  obtain ⟨f, fd, F, g⟩ := d.ex
  refine ⟨f, fd, ps, ⟨fun vs H Q E h => ?_, fun A outer s H args us vs Q E _ _ _ _ h => ?_⟩, g, F.kp, F.binds bd⟩
  · obtain ⟨_, _, _, _, _, _, h, _⟩ := h
    cases h
  · obtain ⟨_, _, _, _, _, _, h, _⟩ := h
    cases h
end
end PB

set_option maxHeartbeats 4000000
namespace PB
open PySem PySem.Spec PyProof.Rows L2

section
variable {prog : Program} {w : World} {A : Around} {E : Value → Shared → Prop} {s : Shared}
theorem sliceApplied_rev {sl : Addr} {vl vu vs : Value} {n : Nat} {Q : Int × Int × Nat → Shared → Prop} (hs : s.heap.IsSliceOf sl vl vu vs) (pl : IsPart vl none) (pu : IsPart vu none) (ps : IsPart vs (some (-1)))
    (h : Q ((n : Int) - 1, -1, n) s) : wpAny (model prog w) A (Builtin.Slice.sliceApplied (.ref sl) (pure (n : Int))) Q E s := by
  obtain ⟨os, hos, hcs, hds⟩ := id hs
  unfold Builtin.Slice.sliceApplied Builtin.Slice.sliceFields
  refine wpAny_bind (wpAny_bind (wpAny_field hos hds (x := vl) rfl (wpAny_bind (wpAny_field hos hds (x := vu) rfl (wpAny_bind (wpAny_field hos hds (x := vs) rfl (wpAny_pure ?_)))))))
  refine wpAny_bind (HT.slicePart_ ps ?_)
  show wpAny _ _ (if ((-1 : Int) == 0) = true then _ else _) _ _ s
  rw [if_neg (by decide)]
  refine wpAny_bind (HT.slicePart_ pl (wpAny_bind (HT.slicePart_ pu (wpAny_bind (wpAny_pure ?_)))))
  show wpAny _ _ (match Builtin.Slice.sliceAdjust none none (-1) (n : Int) with | (lo, hi) => pure (lo, (-1 : Int), Builtin.Slice.slicePlaces lo hi (-1))) _ _ s
  have e1 : Builtin.Slice.sliceAdjust none none (-1) (n : Int) = ((n : Int) - 1, -1) := rfl
  have e2 : Builtin.Slice.slicePlaces ((n : Int) - 1) (-1) (-1) = n := by
    unfold Builtin.Slice.slicePlaces
    rw [if_neg (by decide)]
    split
    · rw [show (- -1 : Int) = 1 by decide, Int.ediv_one]
      omega
    · omega
  rw [e1]
  show wpAny _ _ (pure ((n : Int) - 1, (-1 : Int), Builtin.Slice.slicePlaces ((n : Int) - 1) (-1) (-1))) _ _ s
  rw [e2]
  exact wpAny_pure h
theorem fm_congr {α β : Type} {f g : α → Option β} : ∀ {l : List α}, (∀ m ∈ l, f m = g m) → l.filterMap f = l.filterMap g
  | [], _ => rfl
  | x :: r, h => by
    rw [List.filterMap_cons, List.filterMap_cons, h x List.mem_cons_self, fm_congr fun m hm => h m (List.mem_cons_of_mem _ hm)]
theorem pick_rev (xs : Array Value) : ((List.range xs.size).filterMap fun (m : Nat) => xs[(((xs.size : Int) - 1) + (m : Int) * (-1)).toNat]?).toArray = xs.toList.reverse.toArray := by
  congr 1
  have e : ((List.range xs.size).map fun k => xs.size - 1 - k).filterMap (xs[·]?) = xs.toList.reverse := by
    rw [PySem.W.krv_range, List.filterMap_reverse, PySem.W.krv_all]
  rw [List.filterMap_map] at e
  rw [← e]
  refine fm_congr fun m hm => ?_
  have := List.mem_range.mp hm
  have e2 : (((xs.size : Int) - 1) + (m : Int) * (-1)).toNat = xs.size - 1 - m := by omega
  rw [e2]
  rfl
theorem getItem_tuple_rev {t sl : Addr} {items : Array Value} {vl vu vs : Value} {Q : Value → Shared → Prop} (ht : IsTup s.heap t items) (hs : s.heap.IsSliceOf sl vl vu vs) (pl : IsPart vl none) (pu : IsPart vu none) (ps : IsPart vs (some (-1)))
    (h : Q (.ref s.heap.objs.size) { s with heap := s.heap.push { cls := .type "tuple", data := .seq items.toList.reverse.toArray } })
    (hsz : items.size ≤ sizeLine) : wpAny (model prog w) A (getItem (.ref t) (.ref sl)) Q E s := by
  have htake : sizeOk (.seq items.toList.reverse.toArray) := by
    show items.toList.reverse.toArray.size ≤ sizeLine
    rw [List.size_toArray, List.length_reverse, Array.length_toList]
    exact hsz
  obtain ⟨os, hos, hcs, hds⟩ := id hs
  have hTs : s.TypeIs (.ref sl) "slice" := ⟨os, hos, hcs⟩
  unfold getItem
  try with_reducible refine wpAny_holding ?_
  first | refine wpAny_bind (wpAny_pure ?_) | skip
  refine wpAny_bind (wpAny_sequenceKey ht.typeIs (by decide) ?_)
  refine wpAny_bind (wpAny_callSpecial?_slot (name := Str.ofString "__getitem__") ht.typeIs PyProof.Rows.slot_tuple_getitem
    (wpAny_call_entry PyProof.Rows.slot_tuple_getitem ht.typeIs entry_tuple_getitem ?_ (args_tuple_getitem _ _)))
  show wpAny _ _ (Builtin.Tuple.tupleItemsOf (.ref t) >>= _) _ _ s
  refine wpAny_bind (tupleItemsOf_ ht ?_)
  refine wpAny_bind (wpAny_typeOf hTs ?_)
  rw [if_pos (by decide)]
  refine wpAny_bind (sliceApplied_rev hs pl pu ps ?_)
  have hno : ¬ ((((items.size : Int) - 1 == 0) && (-1 : Int) == 1 && items.size == items.size) = true) := by
    intro q
    rw [Bool.and_eq_true, Bool.and_eq_true] at q
    exact absurd q.1.2 (by decide)
  show wpAny _ _ (if (((items.size : Int) - 1 == 0) && (-1 : Int) == 1 && items.size == items.size) = true then _ else _) _ _ s
  rw [if_neg hno, pick_rev]
  first
    | exact wpAny_bind (m := Builtin.Tuple.tupleExact _) (wpAny_newObj_type (wpAny_pure ⟨_, rfl, wpAny_pure h⟩) htake)
    | exact wpAny_bind (m := Builtin.Tuple.tupleExact _) (wpAny_newObj_type (wpAny_bind (wpAny_pure (wpAny_pure ⟨_, rfl, wpAny_pure h⟩))) htake)
    | exact wpAny_bind (wpAny_bind (m := Builtin.Tuple.tupleExact _) (wpAny_newObj_type (wpAny_pure (wpAny_pure ⟨_, rfl, wpAny_pure h⟩)) htake))
    | exact wpAny_bind (wpAny_bind (m := Builtin.Tuple.tupleExact _) (wpAny_newObj_type (wpAny_pure ⟨_, rfl, wpAny_pure h⟩) htake))
end
section
variable {X : Cx} {a : Expr} {ma : ME}
def tRevA (K : PySem.W.Frag) (te : TE) : TE := fun σ H Q => te σ H fun x H1 => ∃ a xs, x = .ref a ∧ ((SqL K H1 a xs ∧ ∀ p, H1 p = none → Q (.ref p) (upd H1 p (.lst xs.reverse))) ∨ (SqT K H1 a xs ∧ ∀ p o, H1 p = none → o.dict = none → Q (.ref p) (upd H1 p (.frz o (.tup xs.reverse)))))
theorem pe_revA {te : TE} {k : Nat} {p1 p2 p3 pos : Pos} (he : PE X a te) : PE X (.Subscript a (.Slice none none (some (.UnaryOp .USub (.Constant (.int 1) k p1) p2)) p3) pos) (tRevA X.K te) := by
  refine ⟨fun pins s σ H Q I h => ?_⟩
  refine Subscript_ (thn (he.run pins s σ H _ I h) fun v s1 ⟨x, H1, I1, r1, q1⟩ => ?_)
  obtain ⟨l, xs, ex, q⟩ := q1
  subst ex
  cases r1
  have hst : PO X (some (.UnaryOp .USub (.Constant (.int 1) k p1) p2)) (tPart (tUn (rU fun i => .int (-i)) (tC (.int 1)))) := po_some (pe_un un_neg pe_int)
  refine wpAny_Slice (thn (po_none.run pins s1 σ H1 (fun o H2 => o = none ∧ H2 = H1) I1 ⟨rfl, rfl⟩) fun vl s2 ⟨lo, H2, I2, pl, el, e2⟩ => ?_)
  subst el e2
  refine thn (po_none.run pins s2 σ H2 (fun o H3 => o = none ∧ H3 = H2) I2 ⟨rfl, rfl⟩) fun vu s3 ⟨u, H3, I3, pu, eu, e3⟩ => ?_
  subst eu e3
  refine thn (hst.run pins s3 σ H3 (fun o H4 => o = some (-1) ∧ H4 = H3) I3 ⟨1, rfl, -1, rfl, rfl, rfl⟩) fun vs s4 ⟨o, H4, I4, ps, eo, e4⟩ => ?_
  subst eo e4
  have I5 : Inv X pins σ H4 { s4 with heap := s4.heap.push { cls := .type "slice", data := .fields #[vl, vu, vs] } } := I4.kept (t' := s4.toks) fun b ob q => Heap.get?_push_of_some _ q
  show wpAny (model X.prog X.w) X.A (subscriptTail a (.Slice none none (some (.UnaryOp .USub (.Constant (.int 1) k p1) p2)) p3) (.ref l) (.ref s4.heap.objs.size)) (EP X pins σ Q) X.xe { s4 with heap := s4.heap.push { cls := .type "slice", data := .fields #[vl, vu, vs] } }
  rcases q with ⟨hx, q⟩ | ⟨hx, q⟩
  · obtain ⟨its, r, ht, hz⟩ := I5.list hx
    have hlen := r.length
    refine tail_any (ops := [.ref l, .ref s4.heap.objs.size]) ht.isList.typeIs (PySem.slot_list_getitem.lookup) ?_ (by with_unfolding_all rfl)
    refine wpAny_getItem_list_slice ht.isList (Heap.IsSliceOf.new _ vl vu vs) pl pu ps (by decide) ?_ (by rw [List.size_toArray]; omega)
    rw [PySem.W.krv_pick]
    refine ⟨.ref _, _, I5.laid (t' := s4.toks) (o := .lst xs.reverse) (fun b ob q => Heap.get?_push_of_some _ q) (Nat.le_refl _) ?_, rfl, q _ (I5.hok.fresh (Nat.le_refl _))⟩
    exact ⟨by rw [List.length_reverse]; exact hz, _, 0, r.reverse, Heap.get?_push_size _ rfl⟩
  · obtain ⟨its, r, ht, hz⟩ := I5.tuple hx
    have hlen := r.length
    refine tail_any (ops := [.ref l, .ref s4.heap.objs.size]) ht.typeIs (PyProof.Rows.slot_tuple_getitem.lookup) ?_ (by with_unfolding_all rfl)
    refine getItem_tuple_rev ht (Heap.IsSliceOf.new _ vl vu vs) pl pu ps ?_ (by rw [List.size_toArray]; omega)
    exact newT I5 r.reverse (by rw [List.length_reverse]; exact hz) q
def dRev : D → Option D
  | .list ds => some (.list ds.reverse)
  | .tuple ds => some (.tuple ds.reverse)
  | _ => none
theorem je_rev {k : Nat} {p1 p2 p3 pos : Pos} (ha : PE X a (tOf (X.fg tq) ma)) : PE X (.Subscript a (.Slice none none (some (.UnaryOp .USub (.Constant (.int 1) k p1) p2)) p3) pos) (tOf (X.fg tq) (mUn dRev ma)) := by
  refine PE.imp (pe_revA ha) ?_
  rintro σ H Q ⟨G, e, d, e', rel, hm, k⟩
  obtain ⟨⟨d1, e1⟩, h1, hm⟩ := Option.bind_eq_some_iff.mp hm
  obtain ⟨z, h2, hm⟩ := Option.map_eq_some_iff.mp hm
  obtain ⟨rfl, rfl⟩ := Prod.mk.inj hm
  refine ⟨G, e, d1, _, rel, h1, fun v H1 s1 r1 dp => ?_⟩
  simp only at h2
  unfold dRev at h2
  split at h2
  · cases h2
    obtain ⟨l, xs, rfl, q1, t1⟩ := dp_list dp
    exact ⟨l, xs, rfl, .inl ⟨same_cut.seq q1, fun p hp => k _ _ (s1.trans (.grow (same_new hp))) (r1.grow (same_new hp)) (dp_newL r1.ne0 hp (dpa_rev t1))⟩⟩
  · cases h2
    obtain ⟨l, xs, rfl, q1, t1⟩ := dp_tup dp
    exact ⟨l, xs, rfl, .inr ⟨same_tup same_cut q1, fun p o hp ho => k _ _ (s1.trans (.grow (same_new hp))) (r1.grow (same_new hp)) (dp_newT r1.ne0 hp ho (dpa_rev t1))⟩⟩
  · cases h2
end
end PB
namespace PB
open PySem PySem.Spec PyProof.Rows L2
section
variable {K : Frag} {X : Cx} {ms : ML}
theorem new_of : ∀ σ H Q, tOf K (mNew ms) σ H Q → tNOf K ms σ H Q := by
  rintro σ H Q ⟨G, e, d, e', rel, hm, k⟩
  obtain ⟨⟨d1, e1⟩, h1, hm⟩ := Option.map_eq_some_iff.mp hm
  obtain ⟨rfl, rfl⟩ := Prod.mk.inj hm
  refine ⟨G, e, d1, _, rel, h1, fun p xs H1 s1 r1 hp hx dps => k _ H1 s1 r1.tame ?_⟩
  exact .lst (.of (cut_of (fun w => w.elim (fun g => rel.frn p g hp) r1.notOwn) hx)) (dpa_mono vis_tame dps)
theorem set_of {i : Nat} {me : ME} {te : TE} (h : ∀ σ H Q, tOf K me σ H Q → te σ H Q) : ∀ D σ H, tSOf K (sAsg me (bName i)) D σ H → tAsg te (gName i) D σ H := by
  rintro D σ H ⟨G, e, o, e', rel, hm, k⟩
  obtain ⟨⟨d1, e1⟩, h1, hm⟩ := Option.bind_eq_some_iff.mp hm
  obtain ⟨e2, h2, hm⟩ := Option.map_eq_some_iff.mp hm
  obtain ⟨rfl, rfl⟩ := Prod.mk.inj hm
  refine h σ H _ ⟨G, e, d1, e1, rel, h1, fun v H1 s1 r1 dp => ?_⟩
  unfold bName at h2
  split at h2
  · rename_i hc
    cases h2
    simp only [Bool.and_eq_true, decide_eq_true_eq, Bool.not_eq_true'] at hc
    obtain ⟨st, r2⟩ := put_val r1 hc.1 hc.2 dp
    exact k _ H1 (s1.trans st) r2
  · cases h2
theorem setOwn_of {i : Nat} {te : TE} (h : ∀ σ H Q, tNOf K ms σ H Q → te σ H Q) : ∀ D σ H, tSOf K (sAsgOwn i ms) D σ H → tAsg te (gName i) D σ H := by
  rintro D σ H ⟨G, e, o, e', rel, hm, k⟩
  obtain ⟨⟨d1, e1⟩, h1, hm⟩ := Option.bind_eq_some_iff.mp hm
  simp only at hm
  split at hm
  · rename_i hc
    simp only [Bool.and_eq_true, decide_eq_true_eq, Bool.not_eq_true'] at hc
    cases hm
    refine h σ H _ ⟨G, e, _, _, rel, h1, fun p xs H1 s1 r1 hp hx dp => ?_⟩
    obtain ⟨r2, own'⟩ := put_own r1 hc.1 (fun g => rel.frn p g hp) hx dp
    refine k _ H1 ⟨s1.keep, fun b w => ?_, s1.there, fun j ds hj => ?_⟩ r2
    · rcases own' b w with q | q
      · exact s1.new b q
      · rw [q]
        exact .inr hp
    · obtain ⟨_, ds', q2⟩ := s1.par j ds hj
      have hne : i ≠ j := fun q => by
        rw [q, q2] at hc
        cases hc.2
      rw [List.getElem?_set, List.getElem?_set, if_neg hne, if_neg hne]
      exact ⟨rfl, ds', q2⟩
  · cases hm
variable {i : Nat} {y : Str} {py : Pos} {elt tg iter : Expr} {ifs : List Expr} {scope : Scope} {own : List (Str × Nat)} {pos spos : Pos} {mi : ML} {bind : MG} {test : MT} {me : ME} {js : List Nat}
theorem js_setLc (hyl : X.env.scope.names.lookup y = some .local) (hy : X.N[i]? = some y) (hc : X.calm = true) (hN : X.N.Nodup) (hi : PI X tg iter (tIOf (X.fg tq) fl mi)) (ok : BlkOk X.N X.env.scope scope own)
    (hg : ∀ (s : Shared) (H : Hp) (C : Addr) (cl : List (Str × Addr)) (fp : List Addr), PG (X.blk s H scope (compEnvC scope cl C X.env) fp) tg (tGOf (X.fg tq) fl js bind)) (ht : ∀ (s : Shared) (H : Hp) (C : Addr) (cl : List (Str × Addr)) (fp : List Addr), PTs (X.blk s H scope (compEnvC scope cl C X.env) fp) ifs (tTOf (X.fg tq) test))
    (he : ∀ (s : Shared) (H : Hp) (C : Addr) (cl : List (Str × Addr)) (fp : List Addr), PE (X.blk s H scope (compEnvC scope cl C X.env) fp) elt (tOf (X.fg tq) me))
    (hsw : swapsWith (.ListComp elt [⟨tg, iter, ifs, 0⟩] scope pos) (some (.Name y py)) spos.line X.env = pure true) (hjs : ∀ j ∈ js, j ∈ own.map (·.2) := by decide) (hs : ∀ x, foldedSetIterable iter X.env x = pure x := by intro _; rfl) :
    PS X (.Assign [.Name y py] (.ListComp elt [⟨tg, iter, ifs, 0⟩] scope pos) spos) (tSOf (X.fg tq) (sAsg (mNew (mLc mi bind test me (own.map (·.2)))) (bName i))) :=
  PS.imp (ps_setLc hc hN hy hyl hsw hi ok hg ht he hs) (set_of fun σ H Q h => lc_of hjs σ H Q (new_of σ H Q h))
theorem js_setOwnLc (hyl : X.env.scope.names.lookup y = some .local) (hy : X.N[i]? = some y) (hc : X.calm = true) (hN : X.N.Nodup) (hi : PI X tg iter (tIOf (X.fg tq) fl mi)) (ok : BlkOk X.N X.env.scope scope own)
    (hg : ∀ (s : Shared) (H : Hp) (C : Addr) (cl : List (Str × Addr)) (fp : List Addr), PG (X.blk s H scope (compEnvC scope cl C X.env) fp) tg (tGOf (X.fg tq) fl js bind)) (ht : ∀ (s : Shared) (H : Hp) (C : Addr) (cl : List (Str × Addr)) (fp : List Addr), PTs (X.blk s H scope (compEnvC scope cl C X.env) fp) ifs (tTOf (X.fg tq) test))
    (he : ∀ (s : Shared) (H : Hp) (C : Addr) (cl : List (Str × Addr)) (fp : List Addr), PE (X.blk s H scope (compEnvC scope cl C X.env) fp) elt (tOf (X.fg tq) me))
    (hsw : swapsWith (.ListComp elt [⟨tg, iter, ifs, 0⟩] scope pos) (some (.Name y py)) spos.line X.env = pure true) (hjs : ∀ j ∈ js, j ∈ own.map (·.2) := by decide) (hs : ∀ x, foldedSetIterable iter X.env x = pure x := by intro _; rfl) :
    PS X (.Assign [.Name y py] (.ListComp elt [⟨tg, iter, ifs, 0⟩] scope pos) spos) (tSOf (X.fg tq) (sAsgOwn i (mLc mi bind test me (own.map (·.2))))) :=
  PS.imp (ps_setLc hc hN hy hyl hsw hi ok hg ht he hs) (setOwn_of fun σ H Q h => lc_of hjs σ H Q h)
end
end PB

set_option maxHeartbeats 4000000
/-! what the pieces do, for simp -/
namespace PB
open PySem PySem.Spec PyProof.Rows L2
section
variable {e : Sg} {a b c : ME} {s t u : MT} {m l : ML} {x y : MS} {d : D} {i j : Nat}
@[simp] theorem ev_C : mC d e = some (d, e) := rfl
@[simp] theorem ev_Bin {f : D → D → Option D} : mBin f a b e = (a e).bind fun r => (b r.2).bind fun q => (f r.1 q.1).map fun z => (z, q.2) := rfl
@[simp] theorem ev_Un {f : D → Option D} : mUn f a e = (a e).bind fun r => (f r.1).map fun z => (z, r.2) := rfl
@[simp] theorem ev_Chain {f g : D → D → Option D} : mChain f g a b c e = (a e).bind fun r => (b r.2).bind fun q => (f r.1 q.1).bind fun z => match z with
  | .bool k => if k = true then (c q.2).bind fun s => (g q.1 s.1).map fun y => (y, s.2) else some (.bool false, q.2)
  | _ => none := rfl
@[simp] theorem ev_AndV : mAndV a b e = (a e).bind fun r => match r.1 with
  | .bool k => if k = true then b r.2 else some (.bool false, r.2)
  | _ => none := rfl
@[simp] theorem ev_OrV : mOrV a b e = (a e).bind fun r => match r.1 with
  | .bool k => if k = true then some (.bool true, r.2) else b r.2
  | _ => none := rfl
@[simp] theorem ev_IfE : mIfE t a b e = (t e).bind fun r => if r.1 = true then a r.2 else b r.2 := rfl
@[simp] theorem ev_Tru : mTru a e = (a e).bind fun r => (truth r.1).map fun b => (b, r.2) := rfl
@[simp] theorem ev_B : mB a e = (a e).bind fun r => (isB r.1).map fun b => (b, r.2) := rfl
@[simp] theorem ev_AndT : mAndT s t e = (s e).bind fun r => if r.1 = true then t r.2 else some (false, r.2) := rfl
@[simp] theorem ev_OrT : mOrT s t e = (s e).bind fun r => if r.1 = true then some (true, r.2) else t r.2 := rfl
@[simp] theorem ev_NotT : mNotT t e = (t e).map fun r => (!r.1, r.2) := rfl
@[simp] theorem ev_Nil : mNil e = some ([], e) := rfl
@[simp] theorem ev_Cons : mCons a m e = (a e).bind fun x => (m x.2).map fun y => (x.1 :: y.1, y.2) := rfl
@[simp] theorem ev_Tup : mTup m e = (m e).bind fun r => if szOk r.1.length = true then some (.tuple r.1, r.2) else none := rfl
@[simp] theorem ev_Sz : mSz m e = (m e).bind fun r => if szOk r.1.length = true then some r else none := rfl
@[simp] theorem ev_New : mNew m e = (m e).map fun r => (.list r.1, r.2) := rfl
@[simp] theorem ev_CB {f : List D → Option D} : mCB f m e = (m e).bind fun r => (f r.1).map fun z => (z, r.2) := rfl
@[simp] theorem kitD_n {T : String} : kitD .none T = kitB "NoneType" T := rfl
@[simp] theorem kitD2_n {S T : String} : kitD2 .none S T = kitB2 "NoneType" S T := rfl
@[simp] theorem kitD_b {b : Bool} {T : String} : kitD (.bool b) T = kitB "bool" T := rfl
@[simp] theorem kitD2_b {b : Bool} {S T : String} : kitD2 (.bool b) S T = kitB2 "bool" S T := rfl
@[simp] theorem kitD_i {i : Int} {T : String} : kitD (.int i) T = kitB "int" T := rfl
@[simp] theorem kitD2_i {i : Int} {S T : String} : kitD2 (.int i) S T = kitB2 "int" S T := rfl
@[simp] theorem kitD_s {s : Str} {T : String} : kitD (.str s) T = kitB "str" T := rfl
@[simp] theorem kitD2_s {s : Str} {S T : String} : kitD2 (.str s) S T = kitB2 "str" S T := rfl
@[simp] theorem kitD_l {ds : List D} {T : String} : kitD (.list ds) T = kitB "list" T := rfl
@[simp] theorem kitD2_l {ds : List D} {S T : String} : kitD2 (.list ds) S T = kitB2 "list" S T := rfl
@[simp] theorem kitD_t {ds : List D} {T : String} : kitD (.tuple ds) T = kitB "tuple" T := rfl
@[simp] theorem kitD2_t {ds : List D} {S T : String} : kitD2 (.tuple ds) S T = kitB2 "tuple" S T := rfl
@[simp] theorem ev_Isi {T : String} : mIsi T a e = (a e).bind fun r => (kitD r.1 T).map fun b => (.bool b, r.2) := rfl
@[simp] theorem ev_Isi2 {S T : String} : mIsi2 S T a e = (a e).bind fun r => (kitD2 r.1 S T).map fun b => (.bool b, r.2) := rfl
@[simp] theorem ev_Sl {lo hi : MO} : mSl a lo hi e = (a e).bind fun r => (lo r.2).bind fun l => (hi l.2).bind fun u => (dSl r.1 l.1 u.1).map fun z => (z, u.2) := rfl
@[simp] theorem ev_NoPart : mNoPart e = some (none, e) := rfl
@[simp] theorem ev_Part : mPart a e = (a e).bind fun r => match r.1 with
  | .int i => some (some i, r.2)
  | _ => none := rfl
@[simp] theorem ev_Call {n : Nat} {f : Fp} : mCall n f m e = (m e).bind fun r => if r.1.length = n then (f r.1).map fun x => (toD x, r.2) else none := rfl
@[simp] theorem ev_It : mIt a e = (a e).bind fun r => (itemsOf r.1).map fun ds => (ds, r.2) := rfl
@[simp] theorem ev_Zip : mZip a b e = (a e).bind fun r => (b r.2).bind fun q => (zipOf r.1 q.1).map fun z => (z, q.2) := rfl
@[simp] theorem ev_ListOf : mListOf a e = (a e).bind fun r => (seqOf r.1).map fun ds => (ds, r.2) := rfl
@[simp] theorem ev_Yes : mYes e = some (true, e) := rfl
@[simp] theorem ev_Skip : sSkip e = some (.next, e) := rfl
@[simp] theorem ev_Seq : sSeq x y e = (x e).bind fun r => match r.1 with
  | .next => y r.2
  | o => some (o, r.2) := rfl
@[simp] theorem ev_Ret : sRet a e = (a e).map fun r => (.ret (.val r.1), r.2) := rfl
@[simp] theorem ev_RetNew : sRetNew m e = (m e).map fun r => (.ret (.new r.1), r.2) := rfl
@[simp] theorem ev_If : sIf t x y e = (t e).bind fun r => if r.1 = true then x r.2 else y r.2 := rfl
@[simp] theorem ev_Asg {b : MG} : sAsg a b e = (a e).bind fun r => (b r.1 r.2).map fun e' => (.next, e') := rfl
@[simp] theorem ev_Drop : sDrop a e = (a e).map fun r => (.next, r.2) := rfl
@[simp] theorem ev_For {b : MG} : sFor m b x e = (m e).bind fun it => forGo b x it.1 it.2 := rfl
theorem ev_Var (h : e[i]? = some (some (.val d))) : mVar i e = some (d, e) := by
  unfold mVar
  rw [h]
@[simp] theorem ev_Var0 {s : Option Sl} {r : Sg} : mVar 0 (some (.val d) :: r) = some (d, some (.val d) :: r) := rfl
@[simp] theorem ev_Var1 {s : Option Sl} {r : Sg} : mVar 1 (s :: some (.val d) :: r) = some (d, s :: some (.val d) :: r) := rfl
@[simp] theorem ev_Var2 {s s1 : Option Sl} {r : Sg} : mVar 2 (s :: s1 :: some (.val d) :: r) = some (d, s :: s1 :: some (.val d) :: r) := rfl
@[simp] theorem ev_Var3 {s s1 s2 : Option Sl} {r : Sg} : mVar 3 (s :: s1 :: s2 :: some (.val d) :: r) = some (d, s :: s1 :: s2 :: some (.val d) :: r) := rfl
@[simp] theorem ev_Var4 {s s1 s2 s3 : Option Sl} {r : Sg} : mVar 4 (s :: s1 :: s2 :: s3 :: some (.val d) :: r) = some (d, s :: s1 :: s2 :: s3 :: some (.val d) :: r) := rfl
@[simp] theorem ev_Var5 {s s1 s2 s3 s4 : Option Sl} {r : Sg} : mVar 5 (s :: s1 :: s2 :: s3 :: s4 :: some (.val d) :: r) = some (d, s :: s1 :: s2 :: s3 :: s4 :: some (.val d) :: r) := rfl
@[simp] theorem ev_Var6 {s s1 s2 s3 s4 s5 : Option Sl} {r : Sg} : mVar 6 (s :: s1 :: s2 :: s3 :: s4 :: s5 :: some (.val d) :: r) = some (d, s :: s1 :: s2 :: s3 :: s4 :: s5 :: some (.val d) :: r) := rfl
@[simp] theorem dLe_int {i j : Int} : dLe (.int i) (.int j) = some (.bool (decide (i ≤ j))) := rfl
@[simp] theorem dLt_int {i j : Int} : dLt (.int i) (.int j) = some (.bool (decide (i < j))) := rfl
@[simp] theorem dGe_int {i j : Int} : dGe (.int i) (.int j) = some (.bool (decide (j ≤ i))) := rfl
@[simp] theorem dGt_int {i j : Int} : dGt (.int i) (.int j) = some (.bool (decide (j < i))) := rfl
@[simp] theorem dLe_str {i j : Str} : dLe (.str i) (.str j) = some (.bool (!sLt j i)) := rfl
@[simp] theorem dLt_str {i j : Str} : dLt (.str i) (.str j) = some (.bool (sLt i j)) := rfl
@[simp] theorem dGe_str {i j : Str} : dGe (.str i) (.str j) = some (.bool (!sLt i j)) := rfl
@[simp] theorem dGt_str {i j : Str} : dGt (.str i) (.str j) = some (.bool (sLt j i)) := rfl
@[simp] theorem dAdd_int {i j : Int} : dAdd (.int i) (.int j) = some (.int (i + j)) := rfl
@[simp] theorem dSub_int {i j : Int} : dSub (.int i) (.int j) = some (.int (i - j)) := rfl
@[simp] theorem dNot_b {k : Bool} : dNot (.bool k) = some (.bool (!k)) := rfl
@[simp] theorem dNeg_i {k : Int} : dNeg (.int k) = some (.int (-k)) := rfl
@[simp] theorem isB_b {k : Bool} : isB (.bool k) = some k := rfl
@[simp] theorem truth_b {k : Bool} : truth (.bool k) = some k := rfl
@[simp] theorem dIs_n : dIs d .none = some (.bool (isNone d)) := by cases d <;> rfl
@[simp] theorem dIsNot_n : dIsNot d .none = some (.bool (!isNone d)) := by cases d <;> rfl
@[simp] theorem fLen_t {ds : List D} : fLen [.tuple ds] = some (.int ds.length) := rfl
@[simp] theorem fLen_l {ds : List D} : fLen [.list ds] = some (.int ds.length) := rfl
@[simp] theorem fTuple_l {ds : List D} : fTuple [.list ds] = some (.tuple ds) := rfl
@[simp] theorem fTuple_t {ds : List D} : fTuple [.tuple ds] = some (.tuple ds) := rfl
@[simp] theorem items_t {ds : List D} : itemsOf (.tuple ds) = some ds := rfl
@[simp] theorem items_l {ds : List D} : itemsOf (.list ds) = some ds := rfl
@[simp] theorem items_s {s : Str} : itemsOf (.str s) = some (signs s) := rfl
@[simp] theorem seqOf_t {ds : List D} : seqOf (.tuple ds) = some ds := rfl
@[simp] theorem seqOf_l {ds : List D} : seqOf (.list ds) = some ds := rfl
@[simp] theorem toD_v : toD (.val d) = d := rfl
@[simp] theorem toD_n {ds : List D} : toD (.new ds) = .list ds := rfl
@[simp] theorem dIx_t {ds : List D} {i : Int} : dIx (.tuple ds) (.int i) = atI ds i := rfl
@[simp] theorem dIx_l {ds : List D} {i : Int} : dIx (.list ds) (.int i) = atI ds i := rfl
@[simp] theorem at0 {r : List D} : atI (d :: r) 0 = some d := by
  have : atI (d :: r) ((0 : Nat) : Int) = some d := atI_nat rfl
  exact this
theorem at1 {x : D} {r : List D} : atI (x :: d :: r) 1 = some d := by
  have : atI (x :: d :: r) ((1 : Nat) : Int) = some d := atI_nat rfl
  exact this
@[simp] theorem at1' {x : D} {r : List D} : atI (x :: d :: r) 1 = some d := at1
@[simp] theorem szOk0 : szOk 0 = true := rfl
theorem runP_def {n : Nat} {M : MS} {ds : List D} : runP n M ds = match M (startE n ds) with
  | some (.ret r, _) => some r
  | some (.next, _) => some (.val .none)
  | _ => none := rfl
end
@[simp] theorem kb_NoneType_int : kitB "NoneType" "int" = some false := by decide +kernel
@[simp] theorem kb_bool_int : kitB "bool" "int" = some true := by decide +kernel
@[simp] theorem kb_int_int : kitB "int" "int" = some true := by decide +kernel
@[simp] theorem kb_str_int : kitB "str" "int" = some false := by decide +kernel
@[simp] theorem kb_list_int : kitB "list" "int" = some false := by decide +kernel
@[simp] theorem kb_tuple_int : kitB "tuple" "int" = some false := by decide +kernel
@[simp] theorem kb_NoneType_bool : kitB "NoneType" "bool" = some false := by decide +kernel
@[simp] theorem kb_bool_bool : kitB "bool" "bool" = some true := by decide +kernel
@[simp] theorem kb_int_bool : kitB "int" "bool" = some false := by decide +kernel
@[simp] theorem kb_str_bool : kitB "str" "bool" = some false := by decide +kernel
@[simp] theorem kb_list_bool : kitB "list" "bool" = some false := by decide +kernel
@[simp] theorem kb_tuple_bool : kitB "tuple" "bool" = some false := by decide +kernel
@[simp] theorem kb_NoneType_str : kitB "NoneType" "str" = some false := by decide +kernel
@[simp] theorem kb_bool_str : kitB "bool" "str" = some false := by decide +kernel
@[simp] theorem kb_int_str : kitB "int" "str" = some false := by decide +kernel
@[simp] theorem kb_str_str : kitB "str" "str" = some true := by decide +kernel
@[simp] theorem kb_list_str : kitB "list" "str" = some false := by decide +kernel
@[simp] theorem kb_tuple_str : kitB "tuple" "str" = some false := by decide +kernel
@[simp] theorem kb_NoneType_list : kitB "NoneType" "list" = some false := by decide +kernel
@[simp] theorem kb_bool_list : kitB "bool" "list" = some false := by decide +kernel
@[simp] theorem kb_int_list : kitB "int" "list" = some false := by decide +kernel
@[simp] theorem kb_str_list : kitB "str" "list" = some false := by decide +kernel
@[simp] theorem kb_list_list : kitB "list" "list" = some true := by decide +kernel
@[simp] theorem kb_tuple_list : kitB "tuple" "list" = some false := by decide +kernel
@[simp] theorem kb_NoneType_tuple : kitB "NoneType" "tuple" = some false := by decide +kernel
@[simp] theorem kb_bool_tuple : kitB "bool" "tuple" = some false := by decide +kernel
@[simp] theorem kb_int_tuple : kitB "int" "tuple" = some false := by decide +kernel
@[simp] theorem kb_str_tuple : kitB "str" "tuple" = some false := by decide +kernel
@[simp] theorem kb_list_tuple : kitB "list" "tuple" = some false := by decide +kernel
@[simp] theorem kb_tuple_tuple : kitB "tuple" "tuple" = some true := by decide +kernel
@[simp] theorem tyN_bool {x : Bool} : tyN (.bool x) = "bool" := rfl
@[simp] theorem tyN_int {x : Int} : tyN (.int x) = "int" := rfl
@[simp] theorem tyN_str {x : Str} : tyN (.str x) = "str" := rfl
@[simp] theorem tyN_list {x : List D} : tyN (.list x) = "list" := rfl
@[simp] theorem tyN_tuple {x : List D} : tyN (.tuple x) = "tuple" := rfl
@[simp] theorem tyN_none : tyN .none = "NoneType" := rfl
end PB

set_option maxHeartbeats 4000000
/-! it comes to something of which P holds -/
namespace PB
open PySem PySem.Spec PyProof.Rows L2
def Ens {α : Type} (m : Sg → Option (α × Sg)) (e : Sg) (P : α → Sg → Prop) : Prop := ∃ a e', m e = some (a, e') ∧ P a e'
section
variable {e : Sg} {a b c : ME} {s t u : MT} {m l : ML} {x y : MS} {d : D} {i j : Nat} {P : D → Sg → Prop} {PT : Bool → Sg → Prop} {PL : List D → Sg → Prop} {PS : Out → Sg → Prop}
theorem Ens.imp {α : Type} {m : Sg → Option (α × Sg)} {P Q : α → Sg → Prop} (h : Ens m e P) (k : ∀ a e', P a e' → Q a e') : Ens m e Q := by
  obtain ⟨a, e', h1, h2⟩ := h
  exact ⟨a, e', h1, k a e' h2⟩
theorem en_C (h : P d e) : Ens (mC d) e P := ⟨d, e, rfl, h⟩
theorem en_Var (i : Nat) (hi : e[i]? = some (some (.val d))) (h : P d e) : Ens (mVar i) e P := ⟨d, e, ev_Var hi, h⟩
theorem en_Froz (i : Nat) {ds : List D} (hi : e[i]? = some (some (.own false ds))) (h : P (.list ds) (e.set i (some (.val (.list ds))))) : Ens (mVar i) e P := ⟨_, _, by unfold mVar; rw [hi], h⟩
theorem en_Bin {f : D → D → Option D} (h : Ens a e fun x e1 => Ens b e1 fun y e2 => ∃ z, f x y = some z ∧ P z e2) : Ens (mBin f a b) e P := by
  obtain ⟨x, e1, h1, y, e2, h2, z, h3, h4⟩ := h
  exact ⟨z, e2, by simp [h1, h2, h3], h4⟩
theorem en_Un {f : D → Option D} (h : Ens a e fun x e1 => ∃ z, f x = some z ∧ P z e1) : Ens (mUn f a) e P := by
  obtain ⟨x, e1, h1, z, h3, h4⟩ := h
  exact ⟨z, e1, by simp [h1, h3], h4⟩
theorem en_B (h : Ens a e fun x e1 => ∃ k, x = .bool k ∧ PT k e1) : Ens (mB a) e PT := by
  obtain ⟨x, e1, h1, z, rfl, h4⟩ := h
  exact ⟨z, e1, by simp [h1], h4⟩
theorem en_Tru (h : Ens a e fun x e1 => ∃ k, truth x = some k ∧ PT k e1) : Ens (mTru a) e PT := by
  obtain ⟨x, e1, h1, z, h3, h4⟩ := h
  exact ⟨z, e1, by simp [h1, h3], h4⟩
theorem en_AndT (h : Ens s e fun k e1 => if k = true then Ens t e1 PT else PT false e1) : Ens (mAndT s t) e PT := by
  obtain ⟨k, e1, h1, h2⟩ := h
  cases k with
  | true =>
    obtain ⟨k2, e2, h3, h4⟩ := h2
    exact ⟨k2, e2, by simp [h1, h3], h4⟩
  | false => exact ⟨false, e1, by simp [h1], h2⟩
theorem en_NotT (h : Ens t e fun k e1 => PT (!k) e1) : Ens (mNotT t) e PT := by
  obtain ⟨k, e1, h1, h2⟩ := h
  exact ⟨!k, e1, by simp [h1], h2⟩
theorem en_Nil (h : PL [] e) : Ens mNil e PL := ⟨[], e, rfl, h⟩
theorem en_Cons (h : Ens a e fun x e1 => Ens m e1 fun r e2 => PL (x :: r) e2) : Ens (mCons a m) e PL := by
  obtain ⟨x, e1, h1, r, e2, h2, h3⟩ := h
  exact ⟨x :: r, e2, by simp [h1, h2], h3⟩
theorem en_Tup (h : Ens m e fun r e1 => r.length ≤ 100000 ∧ P (.tuple r) e1) : Ens (mTup m) e P := by
  obtain ⟨r, e1, h1, h2, h3⟩ := h
  have hz : szOk r.length = true := decide_eq_true h2
  exact ⟨.tuple r, e1, by simp [h1, hz], h3⟩
theorem en_Sz (h : Ens m e fun r e1 => r.length ≤ 100000 ∧ PL r e1) : Ens (mSz m) e PL := by
  obtain ⟨r, e1, h1, h2, h3⟩ := h
  have hz : szOk r.length = true := decide_eq_true h2
  exact ⟨r, e1, by simp [h1, hz], h3⟩
theorem en_New (h : Ens m e fun r e1 => P (.list r) e1) : Ens (mNew m) e P := by
  obtain ⟨r, e1, h1, h3⟩ := h
  exact ⟨.list r, e1, by simp [h1], h3⟩
theorem en_CB {f : List D → Option D} (h : Ens m e fun r e1 => ∃ z, f r = some z ∧ P z e1) : Ens (mCB f m) e P := by
  obtain ⟨r, e1, h1, z, h2, h3⟩ := h
  exact ⟨z, e1, by simp [h1, h2], h3⟩
theorem en_IfE (h : Ens t e fun k e1 => if k = true then Ens a e1 P else Ens b e1 P) : Ens (mIfE t a b) e P := by
  obtain ⟨k, e1, h1, h2⟩ := h
  cases k with
  | true =>
    obtain ⟨z, e2, h3, h4⟩ := h2
    exact ⟨z, e2, by simp [h1, h3], h4⟩
  | false =>
    obtain ⟨z, e2, h3, h4⟩ := h2
    exact ⟨z, e2, by simp [h1, h3], h4⟩
theorem en_Sl {lo hi : MO} (h : Ens a e fun r e1 => Ens lo e1 fun l e2 => Ens hi e2 fun u e3 => ∃ z, dSl r l u = some z ∧ P z e3) : Ens (mSl a lo hi) e P := by
  obtain ⟨r, e1, h1, l, e2, h2, u, e3, h3, z, h4, h5⟩ := h
  exact ⟨z, e3, by simp [h1, h2, h3, h4], h5⟩
theorem en_NoPart {PO : Option Int → Sg → Prop} (h : PO none e) : Ens mNoPart e PO := ⟨none, e, rfl, h⟩
theorem en_Part {PO : Option Int → Sg → Prop} (h : Ens a e fun r e1 => ∃ k, r = .int k ∧ PO (some k) e1) : Ens (mPart a) e PO := by
  obtain ⟨r, e1, h1, k, rfl, h2⟩ := h
  exact ⟨some k, e1, by simp [h1], h2⟩
theorem en_Call {n : Nat} {f : Fp} (h : Ens m e fun ds e1 => ds.length = n ∧ ∃ r, f ds = some r ∧ P (toD r) e1) : Ens (mCall n f m) e P := by
  obtain ⟨ds, e1, h1, h2, r, h3, h4⟩ := h
  exact ⟨toD r, e1, by simp [h1, h2, h3], h4⟩
theorem en_CallN {n : Nat} {f : Fp} (h : Ens m e fun ds e1 => ds.length = n ∧ ∃ r, f ds = some (.new r) ∧ PL r e1) : Ens (mCallN n f m) e PL := by
  obtain ⟨ds, e1, h1, h2, r, h3, h4⟩ := h
  exact ⟨r, e1, by simp [mCallN, h1, h2, h3], h4⟩
theorem en_CallK (i : Nat) {n : Nat} {f : Fk} {b0 : Bool} {dd : List D} (h0 : e[i]? = some (some (.own b0 dd))) (h : Ens m e fun ds e1 => ds.length + 1 = n ∧ ∃ b ds0 r ds1, e1[i]? = some (some (.own b ds0)) ∧ f ds0 ds = some (r, ds1) ∧ P (toD r) (e1.set i (some (.own b ds1)))) :
    Ens (mCallK i n f m) e P := by
  obtain ⟨ds, e1, h1, h2, b, ds0, r, ds1, h3, h4, h5⟩ := h
  refine ⟨toD r, _, ?_, h5⟩
  unfold mCallK
  rw [h0]
  simp [h1, h3, h2, h4]
theorem en_It (h : Ens a e fun r e1 => ∃ ds, itemsOf r = some ds ∧ PL ds e1) : Ens (mIt a) e PL := by
  obtain ⟨r, e1, h1, ds, h2, h3⟩ := h
  exact ⟨ds, e1, by simp [h1, h2], h3⟩
theorem en_Range1 (h : Ens a e fun r e1 => ∃ n : Int, r = .int n ∧ n ≤ 100000 ∧ -100000 ≤ n ∧ PL (rangeD 0 n.toNat) e1) : Ens (mRange1 a) e PL := by
  obtain ⟨r, e1, h1, n, rfl, h2, h3, h4⟩ := h
  exact ⟨_, e1, by simp [mRange1, h1, h2, h3], h4⟩
theorem en_ListOf (h : Ens a e fun r e1 => ∃ ds, seqOf r = some ds ∧ PL ds e1) : Ens (mListOf a) e PL := by
  obtain ⟨r, e1, h1, ds, h2, h3⟩ := h
  exact ⟨ds, e1, by simp [h1, h2], h3⟩
theorem en_Yes (h : PT true e) : Ens mYes e PT := ⟨true, e, rfl, h⟩
theorem en_IxOwn (i : Nat) {b0 : Bool} {dd : List D} (h0 : e[i]? = some (some (.own b0 dd))) (h : Ens a e fun r e1 => ∃ (k : Int) (b : Bool) (ds : List D) (z : D), r = .int k ∧ e1[i]? = some (some (.own b ds)) ∧ atI ds k = some z ∧ P z e1) : Ens (mIxOwn i a) e P := by
  obtain ⟨r, e1, h1, k, b, ds, z, rfl, h2, h3, h4⟩ := h
  refine ⟨z, e1, ?_, h4⟩
  unfold mIxOwn
  rw [h0]
  simp [h1, h2, h3]
theorem en_LenOwn (i : Nat) {b0 : Bool} {ds : List D} (h0 : e[i]? = some (some (.own b0 ds))) (h : P (.int ds.length) e) : Ens (mLenOwn i) e P := ⟨_, e, by unfold mLenOwn; rw [h0], h⟩
theorem en_Append (i : Nat) {b0 : Bool} {dd : List D} (h0 : e[i]? = some (some (.own b0 dd))) (h : Ens a e fun r e1 => ∃ (b : Bool) (ds : List D), e1[i]? = some (some (.own b ds)) ∧ ds.length ≤ 100000 ∧ P .none (e1.set i (some (.own b (ds ++ [r]))))) : Ens (mAppend i a) e P := by
  obtain ⟨r, e1, h1, b, ds, h2, h3, h4⟩ := h
  have hz : szOk ds.length = true := decide_eq_true h3
  refine ⟨.none, _, ?_, h4⟩
  unfold mAppend
  rw [h0]
  simp [h1, h2, hz]
/-! statements -/
theorem es_Skip (h : PS .next e) : Ens sSkip e PS := ⟨.next, e, rfl, h⟩
theorem es_Seq (h : Ens x e fun o e1 => match o with | .next => Ens y e1 PS | o => PS o e1) : Ens (sSeq x y) e PS := by
  obtain ⟨o, e1, h1, h2⟩ := h
  cases o with
  | next =>
    obtain ⟨o2, e2, h3, h4⟩ := h2
    exact ⟨o2, e2, by simp [h1, h3], h4⟩
  | brk => exact ⟨.brk, e1, by simp [h1], h2⟩
  | cont => exact ⟨.cont, e1, by simp [h1], h2⟩
  | ret r => exact ⟨.ret r, e1, by simp [h1], h2⟩
theorem es_Ret (h : Ens a e fun z e1 => PS (.ret (.val z)) e1) : Ens (sRet a) e PS := by
  obtain ⟨z, e1, h1, h2⟩ := h
  exact ⟨_, e1, by simp [h1], h2⟩
theorem es_If (h : Ens t e fun k e1 => if k = true then Ens x e1 PS else Ens y e1 PS) : Ens (sIf t x y) e PS := by
  obtain ⟨k, e1, h1, h2⟩ := h
  cases k with
  | true =>
    obtain ⟨z, e2, h3, h4⟩ := h2
    exact ⟨z, e2, by simp [h1, h3], h4⟩
  | false =>
    obtain ⟨z, e2, h3, h4⟩ := h2
    exact ⟨z, e2, by simp [h1, h3], h4⟩
theorem es_Asg {g : MG} (h : Ens a e fun z e1 => ∃ e2, g z e1 = some e2 ∧ PS .next e2) : Ens (sAsg a g) e PS := by
  obtain ⟨z, e1, h1, e2, h2, h3⟩ := h
  exact ⟨.next, e2, by simp [h1, h2], h3⟩
theorem es_Own (i : Nat) (h : Ens m e fun r e1 => i < e1.length ∧ isPar e1[i]? = false ∧ PS .next (e1.set i (some (.own false r)))) : Ens (sAsgOwn i m) e PS := by
  obtain ⟨r, e1, h1, h2, h3, h4⟩ := h
  refine ⟨.next, _, ?_, h4⟩
  unfold sAsgOwn
  rw [h1]
  simp only [Option.bind_some]
  rw [if_pos (by rw [h3, decide_eq_true h2]; rfl)]
theorem es_Drop (h : Ens a e fun _ e1 => PS .next e1) : Ens (sDrop a) e PS := by
  obtain ⟨z, e1, h1, h2⟩ := h
  exact ⟨.next, e1, by simp [h1], h2⟩
theorem es_SetOwn (i : Nat) (h : Ens a e fun v e1 => ∃ b0 dd, e1[i]? = some (some (.own b0 dd)) ∧ Ens b e1 fun r e2 => ∃ (k : Int) (c : Bool) (ds : List D) (j : Nat), r = .int k ∧ e2[i]? = some (some (.own c ds)) ∧ ixN ds.length k = some j ∧ PS .next (e2.set i (some (.own c (ds.set j v))))) :
    Ens (sSetOwn i b a) e PS := by
  obtain ⟨v, e1, h1, b0, dd, h2, r, e2, h3, k, c, ds, j, rfl, h4, h5, h6⟩ := h
  refine ⟨.next, _, ?_, h6⟩
  simp [sSetOwn, h1, h2, h3, h4, h5]
theorem for_inv {g : MG} {body : MS} (I : Nat → Sg → Prop) : ∀ (items : List D) (k : Nat) (e : Sg), I k e → (∀ (i : Nat) (d : D) (e : Sg), items[i]? = some d → I (k + i) e → ∃ e', g d e = some e' ∧ Ens body e' fun o e2 => o = .next ∧ I (k + i + 1) e2) →
    ∃ e', forGo g body items e = some (.next, e') ∧ I (k + items.length) e'
  | [], k, e, h, _ => ⟨e, rfl, h⟩
  | d :: ds, k, e, h, hs => by
    obtain ⟨e1, h1, o, e2, h2, rfl, h3⟩ := hs 0 d e rfl h
    obtain ⟨e3, h4, h5⟩ := for_inv I ds (k + 1) e2 h3 fun i x e hx hI => by
      have := hs (i + 1) x e hx (by rw [show k + (i + 1) = k + 1 + i by omega]; exact hI)
      rw [show k + (i + 1) + 1 = k + 1 + i + 1 by omega] at this
      exact this
    refine ⟨e3, ?_, by rw [List.length_cons, show k + (ds.length + 1) = k + 1 + ds.length by omega]; exact h5⟩
    rw [forGo, h1]
    simp only [Option.bind_some]
    rw [h2]
    simp only [Option.bind_some]
    exact h4
theorem es_For {g : MG} {body : MS} (h : Ens m e fun items e1 => ∃ I : Nat → Sg → Prop, I 0 e1 ∧ (∀ (i : Nat) (d : D) (e : Sg), items[i]? = some d → I i e → ∃ e', g d e = some e' ∧ Ens body e' fun o e2 => o = .next ∧ I (i + 1) e2) ∧ ∀ e, I items.length e → PS .next e) : Ens (sFor m g body) e PS := by
  obtain ⟨items, e1, h1, I, h2, h3, h4⟩ := h
  obtain ⟨e2, h5, h6⟩ := for_inv I items 0 e1 h2 fun i d e hd hI => by
    rw [Nat.zero_add] at hI ⊢
    exact h3 i d e hd hI
  rw [Nat.zero_add] at h6
  exact ⟨.next, e2, by simp [h1, h5], h4 e2 h6⟩
theorem lc_inv {g : MG} {vs : List Nat} (I : Nat → Sg → List D → Prop) : ∀ (items : List D) (k : Nat) (e : Sg) (acc : List D), I k e acc → (∀ (i : Nat) (d : D) (e : Sg) (acc : List D), items[i]? = some d → I (k + i) e acc → ∃ e', g d e = some e' ∧ Ens t e' fun q e2 =>
      if q = true then Ens a e2 fun y e3 => ∃ e4, wipeC e3 vs = some e4 ∧ I (k + i + 1) e4 (acc ++ [y]) else ∃ e4, wipeC e2 vs = some e4 ∧ I (k + i + 1) e4 acc) →
    ∃ out e', lcGo g t a vs items e = some (out, e') ∧ I (k + items.length) e' (acc ++ out)
  | [], k, e, acc, h, _ => ⟨[], e, rfl, by rw [List.append_nil]; exact h⟩
  | d :: ds, k, e, acc, h, hs => by
    obtain ⟨e1, h1, q, e2, h2, h3⟩ := hs 0 d e acc rfl h
    have again : ∀ (e4 : Sg) (acc' : List D), I (k + 1) e4 acc' → ∃ out e', lcGo g t a vs ds e4 = some (out, e') ∧ I (k + 1 + ds.length) e' (acc' ++ out) := fun e4 acc' hI => lc_inv I ds (k + 1) e4 acc' hI fun i x e acc hx hI => by
      have := hs (i + 1) x e acc hx (by rw [show k + (i + 1) = k + 1 + i by omega]; exact hI)
      rw [show k + (i + 1) + 1 = k + 1 + i + 1 by omega] at this
      exact this
    cases q with
    | true =>
      obtain ⟨y, e3, h4, e4, h5, h6⟩ := h3
      obtain ⟨out, e5, h7, h8⟩ := again e4 (acc ++ [y]) h6
      refine ⟨y :: out, e5, ?_, by rw [List.length_cons, show k + (ds.length + 1) = k + 1 + ds.length by omega]; rw [List.append_assoc] at h8; exact h8⟩
      rw [lcGo, h1]
      simp only [Option.bind_some]
      rw [h2]
      simp [h4, h5, h7]
    | false =>
      obtain ⟨e4, h5, h6⟩ := h3
      obtain ⟨out, e5, h7, h8⟩ := again e4 acc h6
      refine ⟨out, e5, ?_, by rw [List.length_cons, show k + (ds.length + 1) = k + 1 + ds.length by omega]; exact h8⟩
      rw [lcGo, h1]
      simp only [Option.bind_some]
      rw [h2]
      simp [h5, h7]
theorem en_Lc {g : MG} {vs : List Nat} (h : Ens m e fun items e1 => items.length ≤ 100000 ∧ ∃ e0, wipeC e1 vs = some e0 ∧ ∃ I : Nat → Sg → List D → Prop, I 0 e0 [] ∧ (∀ (i : Nat) (d : D) (e : Sg) (acc : List D), items[i]? = some d → I i e acc → ∃ e', g d e = some e' ∧ Ens t e' fun q e2 =>
      if q = true then Ens a e2 fun y e3 => ∃ e4, wipeC e3 vs = some e4 ∧ I (i + 1) e4 (acc ++ [y]) else ∃ e4, wipeC e2 vs = some e4 ∧ I (i + 1) e4 acc) ∧ ∀ e acc, I items.length e acc → PL acc (restore e1 e vs)) : Ens (mLc m g t a vs) e PL := by
  obtain ⟨items, e1, h1, hz, e0, h0, I, h2, h3, h4⟩ := h
  obtain ⟨out, e2, h5, h6⟩ := lc_inv I items 0 e0 [] h2 fun i d e acc hd hI => by
    rw [Nat.zero_add] at hI ⊢
    exact h3 i d e acc hd hI
  rw [Nat.zero_add, List.nil_append] at h6
  refine ⟨out, _, ?_, h4 e2 out h6⟩
  unfold mLc
  have hz' : szOk items.length = true := decide_eq_true hz
  simp [h1, hz', h0, h5]
end
theorem runK_ens {n : Nat} {M : MS} {ds0 ds : List D} {R : Rt → List D → Prop} (h : Ens M (startK n ds0 ds) fun o e => ∃ ds1, e[0]? = some (some (.own true ds1)) ∧ ∃ r, o = .ret r ∧ R r ds1) : ∃ r ds1, runK n M ds0 ds = some (r, ds1) ∧ R r ds1 := by
  obtain ⟨o, e, h1, ds1, h2, r, rfl, h3⟩ := h
  refine ⟨r, ds1, ?_, h3⟩
  unfold runK
  rw [h1]
  simp [h2]
theorem runP_ens {n : Nat} {M : MS} {ds : List D} {R : Rt → Prop} (h : Ens M (startE n ds) fun o _ => ∃ r, o = .ret r ∧ R r) : ∃ r, runP n M ds = some r ∧ R r := by
  obtain ⟨o, e, h1, r, rfl, h3⟩ := h
  exact ⟨r, by rw [runP_def, h1], h3⟩
end PB

set_option maxHeartbeats 4000000
/-! sets of tuples, nested, of texts and numbers -/
namespace PB
open PySem PySem.Spec PyProof.Rows L2

def KeyA (h : Heap) (k : Nk) (b : Addr) : Prop := NestedIs h k (.ref b) ∧ k.depth ≤ 8
abbrev Mb := Addr × Nk
section
variable {P : Program} {w : World} {A : Around} {E : Value → Shared → Prop} {s : Shared}
theorem KeyA.tup {h : Heap} {k : Nk} {b : Addr} (x : KeyA h k b) : ∃ o vs n ks, k = .tup ks ∧ h.get? b = some o ∧ o.cls = .type "tuple" ∧ o.data = .seq vs n ∧ NestedAll h ks vs.toList := by
  obtain ⟨x, _⟩ := x
  cases x with
  | tup a b c d => exact ⟨_, _, _, _, rfl, a, b, c, d⟩
mutual
theorem cls_key : ∀ (k : Nk) (v : Value) (n : Nat) (s : Shared) (A : Around) (Q : Bool → Shared → Prop), NestedIs s.heap k v → k.depth ≤ n → Q false s → wpAny (model P w) A (ofAClassStatement n v) Q E s
  | .none, _, n, s, A, Q, x, _, q => by cases x; cases n <;> exact wpAny_pure q
  | .num i, _, n, s, A, Q, x, _, q => by cases x <;> cases n <;> exact wpAny_pure q
  | .text y, _, n, s, A, Q, x, _, q => by cases x; cases n <;> exact wpAny_pure q
  | .tup ks, _, 0, s, A, Q, x, hd, q => by simp only [NestedKey.depth] at hd; omega
  | .tup ks, _, n + 1, s, A, Q, x, hd, q => by
    cases x with
    | @tup b o vs m _ hg hc hs hk =>
      unfold ofAClassStatement
      refine wpAny_bind (wpAny_typeOf (T := "tuple") ⟨_, hg, hc⟩ ?_)
      dsimp only
      have e : (("tuple" : String) == "tuple") = true := by decide
      simp only [e, if_true, Bool.not_true, Bool.false_eq_true, if_false]
      try refine wpAny_bind (wpAny_pure ?_)
      try simp only [Bool.not_true, Bool.false_eq_true, if_false]
      refine wpAny_bind (wpAny_seqItems hg hs ?_)
      dsimp only
      refine wpAny_bind ?_
      show wpAny _ _ (forIn vs _ _) _ _ s
      rw [← Array.forIn_toList]
      simp only [NestedKey.depth] at hd
      refine wpAny_forIn_list _ (fun rest r s' => r.1 = none ∧ s' = s ∧ ∃ js, NestedAll s.heap js rest ∧ NestedKey.depthAll js ≤ n ∧ ∀ v ∈ rest, ∀ (A : Around) (Q : Bool → Shared → Prop), Q false s → wpAny (model P w) A (ofAClassStatement n v) Q E s) _ ?_ ?_ _ _ ⟨rfl, rfl, ks, hk, by omega, cls_keys ks _ n s hk (by omega)⟩
      · rintro v rest r s' ⟨hr, rfl, js, h1, h2, h3⟩
        refine wpAny_bind (h3 v List.mem_cons_self _ _ ?_)
        simp only [Bool.false_eq_true, if_false]
        cases h1 with
        | cons a1 a2 =>
          simp only [NestedKey.depthAll] at h2
          exact wpAny_pure ⟨rfl, rfl, _, a2, by omega, fun u hu => h3 u (List.mem_cons_of_mem _ hu)⟩
      · rintro ⟨r1, r2⟩ s' ⟨hr, rfl, _⟩
        simp only at hr
        subst hr
        exact wpAny_pure q
theorem cls_keys : ∀ (ks : List Nk) (vs : List Value) (n : Nat) (s : Shared), NestedAll s.heap ks vs → NestedKey.depthAll ks ≤ n → ∀ v ∈ vs, ∀ (A : Around) (Q : Bool → Shared → Prop), Q false s → wpAny (model P w) A (ofAClassStatement n v) Q E s
  | [], _, n, s, x, _, v, hv => by cases x; cases hv
  | k :: ks, _, n, s, x, hn, v, hv => by
    cases x with
    | cons x1 x2 =>
      simp only [NestedKey.depthAll] at hn
      rcases List.mem_cons.mp hv with e | hv
      · intro A Q q
        rw [e]
        exact cls_key k _ n s A Q x1 (by omega) q
      · exact cls_keys ks _ n s x2 (by omega) v hv
end
mutual
theorem hb_key : ∀ (k : Nk) (v : Value) (n : Nat) (s : Shared) (A : Around) (Q : Bool → Shared → Prop), NestedIs s.heap k v → (∀ b, Q b s) → wpAny (model P w) A (hashByValue n v) Q E s
  | .none, _, n, s, A, Q, x, q => by cases x; cases n <;> exact wpAny_pure (q _)
  | .num i, _, n, s, A, Q, x, q => by cases x <;> cases n <;> exact wpAny_pure (q _)
  | .text y, _, n, s, A, Q, x, q => by cases x; cases n <;> exact wpAny_pure (q _)
  | .tup ks, _, 0, s, A, Q, x, q => by
    cases x
    exact wpAny_pure (q _)
  | .tup ks, _, n + 1, s, A, Q, x, q => by
    cases x with
    | @tup b o vs m _ hg hc hs hk =>
      unfold hashByValue
      refine wpAny_bind (wpAny_specialOf (T := "tuple") ⟨_, hg, hc⟩ F.slot_tuple_hash.lookup ?_)
      show wpAny _ _ (seqItems? (.ref b) >>= _) _ _ s
      refine wpAny_bind (wpAny_seqItems hg hs ?_)
      refine wpAny_bind ?_
      show wpAny _ _ (forIn vs _ _) _ _ s
      rw [← Array.forIn_toList]
      refine wpAny_forIn_list _ (fun rest r s' => s' = s ∧ ∀ v ∈ rest, ∀ (A : Around) (Q : Bool → Shared → Prop), (∀ b, Q b s) → wpAny (model P w) A (hashByValue n v) Q E s) _ ?_ ?_ _ _ ⟨rfl, hb_keys ks _ n s hk⟩
      · rintro v rest r s' ⟨rfl, h3⟩
        refine wpAny_bind (h3 v List.mem_cons_self _ _ fun b => ?_)
        cases b
        · simp only [Bool.not_false, if_true]
          exact wpAny_pure (by exact (by first | exact wpAny_pure (q _) | exact ⟨rfl, fun u hu => h3 u (List.mem_cons_of_mem _ hu)⟩))
        · simp only [Bool.not_true, Bool.false_eq_true, if_false]
          exact wpAny_pure ⟨rfl, fun u hu => h3 u (List.mem_cons_of_mem _ hu)⟩
      · rintro ⟨r1, r2⟩ s' ⟨rfl, _⟩
        cases r1 with
        | none => exact wpAny_pure (q _)
        | some b => exact wpAny_pure (q _)
theorem hb_keys : ∀ (ks : List Nk) (vs : List Value) (n : Nat) (s : Shared), NestedAll s.heap ks vs → ∀ v ∈ vs, ∀ (A : Around) (Q : Bool → Shared → Prop), (∀ b, Q b s) → wpAny (model P w) A (hashByValue n v) Q E s
  | [], _, n, s, x, v, hv => by cases x; cases hv
  | k :: ks, _, n, s, x, v, hv => by
    cases x with
    | cons x1 x2 =>
      rcases List.mem_cons.mp hv with e | hv
      · intro A Q q
        rw [e]
        exact hb_key k _ n s A Q x1 q
      · exact hb_keys ks _ n s x2 v hv
end
end
end PB

set_option maxHeartbeats 4000000
namespace PB
open PySem PySem.Spec PyProof.Rows L2
def hsh (w : World) (m : Mb) : Int := NestedKey.hash w m.2
def ent (w : World) (m : Mb) : Int × Value := (hsh w m, .ref m.1)
def keysOf (M : List Mb) : List Nk := M.map Prod.snd
/-- the set at a has the members M -/
structure SetN (w : World) (h : Heap) (a : Addr) (M : List Mb) (es : Array (Int × Value)) (ep : Nat) (t : SetTable) : Prop where
  obj : ∃ o, h.get? a = some o ∧ o.ExactSet ∧ o.data = .set es ep t
  list : es.toList = M.map (ent w)
  table : TabOk t (M.map (hsh w))
  once : (keysOf M).Nodup
  mem : ∀ m ∈ M, KeyA h m.2 m.1
  led : w.params.followText "set-order" = true ∨ t.led = true
  free : M.length * 5 < t.mask * 3
  few : M.length < 64
section
variable {P : Program} {w : World} {A : Around} {E : Value → Shared → Prop} {s : Shared} {a : Addr} {M : List Mb} {es : Array (Int × Value)} {ep : Nat} {t : SetTable}
theorem SetN.size {h : Heap} (R : SetN w h a M es ep t) : es.size = M.length := by
  rw [← Array.length_toList, R.list, List.length_map]
theorem SetN.fits {h : Heap} (R : SetN w h a M es ep t) : t.fits es.size = true := by
  have q1 : t.place.size = M.length := by simpa using R.table.sz
  have q2 := R.size
  have q3 := R.free
  simp only [SetTable.fits, SetTable.fill, R.table.dm, Bool.and_eq_true, beq_iff_eq, decide_eq_true_eq]
  exact ⟨by omega, by show t.place.size + 0 ≤ t.mask; omega⟩
theorem SetN.at {h : Heap} (R : SetN w h a M es ep t) {i : Nat} {m : Mb} (q : M[i]? = some m) : es[i]? = some (ent w m) := by
  rw [← Array.getElem?_toList, R.list, List.getElem?_map, q, Option.map_some]
theorem SetN.odd {h : Heap} (R : SetN w h a M es ep t) : ¬ t.gaveWay = true := by
  simp [SetTable.gaveWay, mask_odd R.table.mok]
theorem eq_keys {k j : Nk} {x y : Addr} {Q : Bool → Shared → Prop} (hu : A.units + 8 < cLine) (hx : KeyA s.heap k x) (hy : KeyA s.heap j y) (q : Q (decide (k = j)) s) : wpAny (model P w) A (eqBool (.ref x) (.ref y)) Q E s :=
  (nestedKind P w).eqBool hu hx hy q
/-- comparing shows nothing -/
theorem unseen {k : Nk} {x : Addr} {Q : Bool → Shared → Prop} (hx : KeyA s.heap k x) {ys : List Value} (hy : ∀ y ∈ ys, ∃ m : Mb, y = .ref m.1 ∧ KeyA s.heap m.2 m.1) (q : Q false s) : wpAny (model P w) A (searchCouldBeSeen (.ref x) ys) Q E s := by
  unfold searchCouldBeSeen
  refine wpAny_bind (wpAny_forIn_list _ (fun rest r s' => r.1 = none ∧ s' = s ∧ ∀ y ∈ rest, ∃ m : Mb, y = .ref m.1 ∧ KeyA s.heap m.2 m.1) _ ?_ ?_ _ _ ⟨rfl, rfl, hy⟩)
  · rintro v rest r s' ⟨_, rfl, all⟩
    obtain ⟨⟨c, j⟩, rfl, hc⟩ := all v List.mem_cons_self
    have all' := fun y (h : y ∈ rest) => all y (List.mem_cons_of_mem _ h)
    dsimp only at hc ⊢
    by_cases hv : (x == c || (carriedByValue (.ref x) && carriedByValue (.ref c))) = true
    · exact wp_if_pos hv (wpAny_pure ⟨rfl, rfl, all'⟩)
    · refine wp_if_neg hv (wpAny_bind ((nestedKind P w).quiet (k := k) hx ?_))
      simp only [Bool.not_true, Bool.false_eq_true, if_false]
      refine wpAny_bind ((nestedKind P w).quiet (k := j) hc ?_)
      simp only [Bool.not_true, Bool.false_eq_true, if_false]
      refine wpAny_bind (cls_key k _ 8 s' _ _ hx.1 hx.2 ?_)
      simp only [Bool.false_eq_true, if_false]
      refine wpAny_bind (cls_key j _ 8 s' _ _ hc.1 hc.2 ?_)
      simp only [Bool.false_eq_true, if_false]
      exact wpAny_pure ⟨rfl, rfl, all'⟩
  · rintro ⟨r1, r2⟩ s' ⟨hr, rfl, _⟩
    cases (show r1 = none from hr)
    exact wpAny_pure q
theorem no_dummy (m : Nat) : ∀ (n : Nat) (p : SetTable.Probe), p.dummy = none → (nth m p n).dummy = none
  | 0, _, h => h
  | n + 1, p, h => no_dummy m n (adv m p) (by unfold adv; split <;> exact h)
/-- the way of a hash, from the c-th step on -/
abbrev stand (m : Nat) (h : Int) (c : Nat) : SetTable.Probe := nth m (runAt m (SetTable.bits h % (m + 1)) (SetTable.bits h)) c
theorem stand_add (m : Nat) (h : Int) (c q : Nat) : nth m (stand m h c) q = stand m h (c + q) := (nth_add m c _ q).symm
theorem look (R : SetN w s.heap a M es ep t) {x : Addr} {k : Nk} (hx : KeyA s.heap k x) (hu : A.units + 8 < cLine) {K : Nat} (hf : K < 10 * SetTable.turns t.mask)
    (he : way t.mask (k.hash w) K ∉ t.place.toList) (hb : ∀ c, c < K → way t.mask (k.hash w) c ∈ t.place.toList) {Q : SetFound → Shared → Prop}
    (yes : k ∈ keysOf M → Q (.there none) s) (no : k ∉ keysOf M → Q (.free (way t.mask (k.hash w) K) false) s) :
    ∀ (f c : Nat) (st : Option SetTable.Probe), st.getD (t.probeStart (k.hash w)) = stand t.mask (k.hash w) c → c ≤ K → K - c < f →
      (∀ (i : Nat) (m : Mb), M[i]? = some m → m.2 = k → ∃ c', c ≤ c' ∧ c' < K ∧ t.place.toList[i]? = some (way t.mask (k.hash w) c')) →
      wpAny (model P w) A (setSearchFrom a (.ref x) (k.hash w) true f st) Q E s
  | 0, _, _, _, _, h, _ => absurd h (Nat.not_lt_zero _)
  | f + 1, c, st, hst, hc, hlt, still => by
    obtain ⟨o, ho, hex, hd⟩ := R.obj
    rw [setSearchFrom_succ]
    refine wpAny_bind (wpAny_setState_of ho hd R.fits (wp_if_neg R.odd ?_))
    try refine wpAny_bind (wpAny_pure ?_)
    have step : ∀ q, (nth t.mask (stand t.mask (k.hash w) c) q).j = way t.mask (k.hash w) (c + q) := fun q => congrArg SetTable.Probe.j (stand_add _ _ c q)
    have hs : ∀ (i : Nat) (m : Mb), M[i]? = some m → (es[i]?.map (·.1)).getD 0 = hsh w m := fun i m hm => by rw [R.at hm]; rfl
    have sp := go_spec t R.table.ris R.table.dm (fun i => (es[i]?.map (·.1)).getD 0) (k.hash w) (10 * SetTable.turns t.mask) (K - c) (stand t.mask (k.hash w) c) (no_dummy _ _ _ rfl) (by omega)
      (fun q hq => by rw [step]; exact hb _ (by omega)) (by rw [step, Nat.add_sub_cancel' hc]; exact he)
    have notYet : ∀ (top : Nat), (∀ (q i : Nat), q < top → t.place.toList[i]? = some (nth t.mask (stand t.mask (k.hash w) c) q).j → (es[i]?.map (·.1)).getD 0 ≠ k.hash w) →
        ∀ (i : Nat) (m : Mb), M[i]? = some m → m.2 = k → ∃ c', c + top ≤ c' ∧ c' < K ∧ t.place.toList[i]? = some (way t.mask (k.hash w) c') := fun top hno i m hm hk => by
      obtain ⟨c', b1, b2, b3⟩ := still i m hm hk
      refine ⟨c', Nat.le_of_not_lt fun z => ?_, b2, b3⟩
      refine hno (c' - c) i (by omega) (by rw [step, Nat.add_sub_cancel' b1]; exact b3) ?_
      rw [hs i m hm]
      exact congrArg (NestedKey.hash w) hk
    rcases sp with ⟨q, i, hq, hi, hh, hno, hp⟩ | ⟨hno, hp⟩
    · have hp' : t.probe (fun i => (es[i]?.map (·.1)).getD 0) (k.hash w) (st.getD (t.probeStart (k.hash w))) = some (.candidate (way t.mask (k.hash w) (c + q)) i (stand t.mask (k.hash w) (c + q + 1))) := by
        rw [hst, ← step, Nat.add_assoc, ← stand_add]
        exact hp
      rw [step] at hi
      have hil : i < M.length := by
        have q1 := (List.getElem?_eq_some_iff.mp hi).1
        have q2 : t.place.size = M.length := by simpa using R.table.sz
        rw [Array.length_toList] at q1
        omega
      obtain ⟨m, hm⟩ : ∃ m, M[i]? = some m := ⟨_, List.getElem?_eq_getElem hil⟩
      have hmM := List.mem_of_getElem? hm
      have last : wpAny (model P w) A (searchRest a (.ref x) (k.hash w) true f es t (way t.mask (k.hash w) (c + q)) i (stand t.mask (k.hash w) (c + q + 1))) Q E s := by
        unfold searchRest
        rw [R.at hm]
        refine wpAny_bind (wpAny_holding (eq_keys hu (R.mem m hmM) hx (wpAny_bind (wpAny_setState_of ho hd R.fits ?_))))
        by_cases ek : m.2 = k
        · exact wp_if_pos (by simp [ek]) (wpAny_pure (yes (List.mem_map.mpr ⟨m, hmM, ek⟩)))
        · refine wp_if_neg (by simp [ek]) ?_
          try refine wpAny_bind (wpAny_pure ?_)
          rw [sameMem]
          have sl := slot_live R.table.ris hi
          simp only [if_true, sl, R.at hm, ent]
          refine wpAny_bind (wpAny_isSame_ref_self (wpAny_bind (wpAny_pure ?_)))
          simp only [if_true]
          refine wp_if_neg (by simp [ek]) (look R hx hu hf he hb yes no f (c + q + 1) _ rfl (by omega) (by omega) fun i0 m0 h0 k0 => ?_)
          obtain ⟨c', b1, b2, b3⟩ := notYet q hno i0 m0 h0 k0
          refine ⟨c', Nat.lt_of_le_of_ne b1 fun z => ?_, b2, b3⟩
          rw [← z] at b3
          have sl0 := slot_live R.table.ris b3
          rw [sl] at sl0
          cases sl0
          rw [hm] at h0
          cases h0
          exact ek k0
      rw [hp']
      by_cases hl : t.led = true
      · refine wp_if_neg (by simp [hl]) ?_
        try refine wpAny_bind (wpAny_pure ?_)
        exact last
      · refine wp_if_pos (by simp [hl]) (wpAny_bind (unseen hx (fun y hy => ?_) (wp_if_neg (by decide) ?_)))
        · obtain ⟨u, hu1, rfl⟩ := List.mem_map.mp hy
          have hu2 : u ∈ es.toList := by
            have : u ∈ es ∧ u.1 = k.hash w := by simpa using hu1
            simpa using this.1
          rw [R.list] at hu2
          obtain ⟨m', hm', rfl⟩ := List.mem_map.mp hu2
          exact ⟨m', rfl, R.mem m' hm'⟩
        · try refine wpAny_bind (wpAny_pure ?_)
          exact last
    · have hp' : t.probe (fun i => (es[i]?.map (·.1)).getD 0) (k.hash w) (st.getD (t.probeStart (k.hash w))) = some (.empty (way t.mask (k.hash w) K) none) := by
        have e2 := step (K - c)
        rw [Nat.add_sub_cancel' hc] at e2
        rw [hst, ← e2]
        exact hp
      rw [hp']
      refine wpAny_pure (no fun hmem => ?_)
      obtain ⟨m, h0, k0⟩ := List.mem_map.mp hmem
      obtain ⟨i, hi, e0⟩ := List.getElem_of_mem h0
      obtain ⟨c', b1, b2, _⟩ := notYet (K - c) hno i m (by rw [List.getElem?_eq_getElem hi, e0]) k0
      omega
theorem look_add (R : SetN w s.heap a M es ep t) {x : Addr} {k : Nk} (hx : KeyA s.heap k x) (hu : A.units + 8 < cLine) {Q : SetFound → Shared → Prop} (yes : k ∈ keysOf M → Q (.there none) s)
    (no : ∀ K, k ∉ keysOf M → way t.mask (k.hash w) K ∉ t.place.toList → (∀ c, c < K → way t.mask (k.hash w) c ∈ t.place.toList) → Q (.free (way t.mask (k.hash w) K) false) s) :
    wpAny (model P w) A (setSearch a (.ref x) (k.hash w) true) Q E s := by
  have hfree := R.free
  obtain ⟨K, q1, q2, q3⟩ := R.table.first (by rw [List.length_map]; omega) (k.hash w)
  have few : 10 * SetTable.turns t.mask ≤ 1420 := by
    rcases R.table.mok with e | e | e <;> rw [e] <;> decide
  refine look R hx hu q1 q2 q3 yes (fun n => no K n q2 q3) 100000 0 none rfl (Nat.zero_le _) (by omega) fun i m hm hk => ?_
  have hl : i < t.place.toList.length := by
    have z1 := (List.getElem?_eq_some_iff.mp hm).1
    have z2 : t.place.size = M.length := by simpa using R.table.sz
    rw [Array.length_toList]
    omega
  obtain ⟨c, hc, e⟩ := R.table.before q2 (i := i) (h := k.hash w) (by rw [List.getElem?_map, hm, ← hk]; rfl) (List.getElem?_eq_getElem hl)
  exact ⟨c, Nat.zero_le _, hc, by rw [List.getElem?_eq_getElem hl, e]⟩
end
end PB

set_option maxHeartbeats 4000000
namespace PB
open PySem PySem.Spec PyProof.Rows L2
theorem KeyA.other {h h' : Heap} {k : Nk} {a b : Addr} {o : Obj} {es : Array (Int × Value)} {ep : Nat} {t : SetTable} (x : KeyA h k b) (ho : h.get? a = some o) (hd : o.data = .set es ep t) (sb : Heap.SameBut a h h') : KeyA h' k b := by
  refine ⟨NestedIs.at (fun c u vs n hc hs => ?_) k _ x.1, x.2⟩
  refine (sb.2 c fun z => ?_).trans hc
  subst z
  cases ho.symm.trans hc
  cases hd.symm.trans hs
theorem KeyA.keep {h h' : Heap} {k : Nk} {b : Addr} (x : KeyA h k b) (kp : ∀ c o, h.get? c = some o → h'.get? c = some o) : KeyA h' k b := ⟨NestedIs.at (fun c u _ _ hc _ => kp c u hc) k _ x.1, x.2⟩
section
variable {P : Program} {w : World} {A : Around} {E : Value → Shared → Prop} {s : Shared} {a : Addr} {M : List Mb} {es : Array (Int × Value)} {ep : Nat} {t : SetTable}
theorem pick_mem {α : Type} (l : List α) : (List.range l.length).filterMap (fun i => l[i]?) = l := by
  induction l with
  | nil => rfl
  | cons x r ih =>
    rw [List.length_cons, List.range_succ_eq_map, List.filterMap_cons_some (by rfl : (x :: r)[0]? = some x), List.filterMap_map]
    exact congrArg (x :: ·) ih
theorem reorder (M : List Mb) (es : Array (Int × Value)) (ord : List Nat) (hl : es.toList = M.map (ent w)) (hp : ∀ i ∈ ord, i < M.length) :
    ord.filterMap (fun i => es[i]?) = (ord.filterMap fun i => M[i]?).map (ent w) ∧ (ord.filterMap fun i => M[i]?).map (hsh w) = ord.map fun i => (es.map (·.1)).getD i 0 := by
  induction ord with
  | nil => exact ⟨rfl, rfl⟩
  | cons i r ih =>
    have hi := hp i List.mem_cons_self
    obtain ⟨h1, h2⟩ := ih fun j hj => hp j (List.mem_cons_of_mem _ hj)
    have e1 : M[i]? = some M[i] := List.getElem?_eq_getElem hi
    have e2 : es[i]? = some (ent w M[i]) := by rw [← Array.getElem?_toList, hl, List.getElem?_map, e1, Option.map_some]
    refine ⟨?_, ?_⟩
    · rw [List.filterMap_cons_some e2, List.filterMap_cons_some e1, List.map_cons, h1]
    · rw [List.filterMap_cons_some e1, List.map_cons, List.map_cons, h2]
      have e3 : (es.map (·.1))[i]? = some (hsh w M[i]) := by rw [Array.getElem?_map, e2]; rfl
      simp [Array.getD_eq_getD_getElem?, e3]
theorem relay {o : Obj} (ho : s.heap.get? a = some o) (hex : o.ExactSet) (hd : o.data = .set es ep t) (hl : es.toList = M.map (ent w)) (hz : t.place.size = es.size) (hdm : t.dummies = #[]) (hfl : es.size ≤ t.mask)
    (once : (keysOf M).Nodup) (mem : ∀ m ∈ M, KeyA s.heap m.2 m.1) (led : w.params.followText "set-order" = true ∨ t.led = true) (few : M.length < 64) {wanted m : Nat}
    (hw : SetTable.sizeAbove wanted - 1 = m) (hm : MaskOk m) (hw2 : SetTable.sizeAbove wanted ≤ 128) (free : M.length * 5 < m * 3) {Q : Unit → Shared → Prop}
    (k : ∀ h' M' es' ep' t', Heap.SameBut a s.heap h' → SetN w h' a M' es' ep' t' → M'.Perm M → Q () { s with heap := h' }) : wpAny (model P w) A (setRelay a wanted) Q E s := by
  have hsz : es.size = M.length := by rw [← Array.length_toList, hl, List.length_map]
  have hfits : t.fits es.size = true := by
    simp only [SetTable.fits, SetTable.fill, hdm, Bool.and_eq_true, beq_iff_eq, decide_eq_true_eq]
    exact ⟨hz, by show t.place.size + 0 ≤ t.mask; omega⟩
  obtain ⟨t', order, e, hp, T, em, el, _, ed⟩ := relaid_ok t (hs := es.map (·.1)) (wanted := wanted) hw hm (by rw [Array.size_map, hsz]; omega)
  rw [Array.size_map, hsz] at hp
  obtain ⟨r1, r2⟩ := reorder (w := w) M es order.toList hl fun i hi => List.mem_range.mp (hp.mem_iff.mp hi)
  have pm : (order.toList.filterMap fun i => M[i]?).Perm M := by
    have := hp.filterMap fun i => M[i]?
    rwa [pick_mem] at this
  have r1' : (order.filterMap (es[·]?)).toList = (order.toList.filterMap fun i => M[i]?).map (ent w) := by
    first | (rw [Array.toList_filterMap]; exact r1) | simpa using r1
  rw [← r2] at T
  generalize hM' : (order.toList.filterMap fun i => M[i]?) = M' at T pm r1'
  generalize hE : order.filterMap (es[·]?) = es' at r1'
  have hz' : es'.size = es.size := by rw [← Array.length_toList, r1', List.length_map, pm.length_eq, hsz]
  rw [setRelay_eq]
  refine wpAny_bind (wpAny_setState_of ho hd hfits ?_)
  dsimp only
  refine wp_if_neg (by rw [sizeLine_eq]; omega) ?_
  try refine wpAny_bind (wpAny_pure ?_)
  rw [e]
  dsimp only
  rw [hE]
  refine wpAny_bind (wp_if_neg (by rw [hz']; simp) ?_)
  try refine wpAny_bind (wpAny_pure ?_)
  refine wpAny_pure ?_
  dsimp only
  refine wpAny_storeSet_of ho hd ?_ (by rw [hz', hsz, sizeLine_eq]; omega)
  have sb : Heap.SameBut a s.heap (s.heap.update a (Obj.putSet es' t')) := Heap.SameBut.update ..
  exact k _ M' es' (ep + 1) t' sb ⟨⟨_, store_at ho hd, ⟨hex.1, hex.2.1, hex.2.2⟩, rfl⟩, r1', T, (pm.map Prod.snd).nodup_iff.mpr once, fun p hpm => (mem p (pm.mem_iff.mp hpm)).other ho hd sb, by rw [el]; exact led, by rw [pm.length_eq, em]; exact free, by rw [pm.length_eq]; exact few⟩ pm
def putTail (a : Addr) (n : Nat) (es1 : Array (Int × Value)) (t2 : SetTable) : Sem Bool := do
  storeSet a es1 t2
  if !false && t2.tooFull then setRelay a (SetTable.grown (n + 1))
  return true
theorem plain_tab {t : SetTable} {hs : List Int} (T : TabOk t hs) (b : Bool) : TabOk { t with plain := b } hs := ⟨T.ris, T.dm, T.sz, T.mok, T.bd, T.reach⟩
/-- one more -/
theorem put_in (R : SetN w s.heap a M es ep t) {x : Addr} {k : Nk} (hx : KeyA s.heap k x) (hu : A.units + 8 < cLine) (few : M.length + 1 < 64) {Q : Bool → Shared → Prop}
    (fin : ∀ b h' M' es' ep' t', Heap.SameBut a s.heap h' → SetN w h' a M' es' ep' t' → (k ∈ keysOf M → M' = M) → (k ∉ keysOf M → M'.Perm ((x, k) :: M)) → Q b { s with heap := h' }) :
    wpAny (model P w) A (setAddHashed a (.ref x) (k.hash w)) Q E s := by
  obtain ⟨o, ho, hex, hd⟩ := R.obj
  have hsz := R.size
  have hfree := R.free
  unfold setAddHashed
  refine wpAny_holding ?_
  rw [show (100000 : Nat) = 99999 + 1 from rfl, setAddHashedIn_succ]
  refine wpAny_bind (wpAny_setState_of ho hd R.fits (wp_if_neg (by simp [byScan, Value.scannable]) ?_))
  try refine wpAny_bind (wpAny_pure ?_)
  refine wpAny_bind (look_add R hx hu (fun y => ?_) fun K n hK hb => ?_)
  · exact wpAny_pure (fin false s.heap M es ep t (Heap.SameBut.refl a s.heap) R (fun _ => rfl) fun z => absurd y z)
  · dsimp only
    refine wpAny_bind (wpAny_setState_of ho hd R.fits ?_)
    dsimp only
    obtain ⟨q1, q2, q3, q4, q5, q6, q7, q8, q9⟩ := R.table.put hK hb
    generalize t.put (way t.mask (k.hash w) K) = pt at q1 q3 q4 q5 q6 q7 q8 q9 ⊢
    obtain ⟨t1, p⟩ := pt
    dsimp only at q1 q3 q4 q5 q6 q7 q8 q9 ⊢
    subst q1
    generalize SetTable.below t.place (way t.mask (k.hash w) K) = p at q2 q3 ⊢
    have pm : (M.take p ++ (x, k) :: M.drop p).Perm ((x, k) :: M) := put_perm M p (x, k)
    have hin : (SetTable.insertAt es p (k.hash w, Value.ref x)).toList = (M.take p ++ (x, k) :: M.drop p).map (ent w) := by
      rw [SetTable.toList_insertAt, R.list, List.map_append, List.map_cons, List.map_take, List.map_drop]
      rfl
    have hh : (M.take p ++ (x, k) :: M.drop p).map (hsh w) = (M.map (hsh w)).take p ++ k.hash w :: (M.map (hsh w)).drop p := by
      rw [List.map_append, List.map_cons, List.map_take, List.map_drop]
      rfl
    rw [← hh] at q3
    generalize M.take p ++ (x, k) :: M.drop p = M1 at pm hin q3
    generalize SetTable.insertAt es p (k.hash w, Value.ref x) = es1 at hin ⊢
    have hlen : M1.length = M.length + 1 := pm.length_eq
    have hz1 : es1.size = M.length + 1 := by rw [← Array.length_toList, hin, List.length_map, hlen]
    have once1 : (keysOf M1).Nodup := (pm.map Prod.snd).nodup_iff.mpr (List.nodup_cons.mpr ⟨n, R.once⟩)
    rw [List.length_map] at q9
    have tail : ∀ t2 : SetTable, TabOk t2 (M1.map (hsh w)) → t2.mask = t.mask → t2.led = t.led → t2.fill = M.length + 1 →
        wpAny (model P w) A (putTail a es.size es1 t2) Q E s := by
      intro t2 T2 m2 l2 f2
      unfold putTail
      refine wpAny_bind (wpAny_storeSet_of ho hd ?_ (by rw [hz1, sizeLine_eq]; omega))
      have sb : Heap.SameBut a s.heap (s.heap.update a (Obj.putSet es1 t2)) := Heap.SameBut.update ..
      have ho1 := store_at (es' := es1) (t' := t2) ho hd
      generalize s.heap.update a (Obj.putSet es1 t2) = h1 at sb ho1 ⊢
      have mem1 : ∀ m ∈ M1, KeyA h1 m.2 m.1 := fun m hm => by
        rcases List.mem_cons.mp (pm.mem_iff.mp hm) with e | hm
        · rw [e]; exact hx.other ho hd sb
        · exact (R.mem m hm).other ho hd sb
      have led1 : w.params.followText "set-order" = true ∨ t2.led = true := by rw [l2]; exact R.led
      have full : t2.tooFull = decide ((M.length + 1) * 5 ≥ t.mask * 3) := by
        unfold SetTable.tooFull
        rw [f2, m2]
      have ex1 : ({ o with data := .set es1 (ep + 1) t2 } : Obj).ExactSet := ⟨hex.1, hex.2.1, hex.2.2⟩
      by_cases hf : t2.tooFull = true
      · rw [full, decide_eq_true_eq] at hf
        have two : (t.mask = 7 ∧ M.length = 4) ∨ (t.mask = 31 ∧ M.length = 18) := by
          rcases R.table.mok with e | e | e <;> rw [e] at hf hfree
          · exact .inl ⟨e, by omega⟩
          · exact .inr ⟨e, by omega⟩
          · omega
        have lay : ∀ m, SetTable.sizeAbove (SetTable.grown (M.length + 1)) - 1 = m → MaskOk m → SetTable.sizeAbove (SetTable.grown (M.length + 1)) ≤ 128 → (M.length + 1) * 5 < m * 3 →
            wpAny (model P w) A (setRelay a (SetTable.grown (es.size + 1))) (fun _ s' => wpAny (model P w) A (pure true) Q E s') E { s with heap := h1 } := fun m b1 b2 b3 b4 => by
          rw [hsz]
          refine relay (s := { s with heap := h1 }) ho1 ex1 rfl hin (by rw [T2.sz, List.length_map, hlen, hz1]) T2.dm (by rw [hz1, m2]; omega) once1 mem1 led1 (by rw [hlen]; exact few) b1 b2 b3 (by rw [hlen]; exact b4) ?_
          intro h2 M2 es2 ep2 t2 sb2 R2 pm2
          exact wpAny_pure (fin true h2 M2 es2 ep2 t2 (sb.trans sb2) R2 (fun z => absurd z n) fun _ => pm2.trans pm)
        have hf' : (!false && t2.tooFull) = true := by rw [full]; simpa using hf
        have go : wpAny (model P w) A (setRelay a (SetTable.grown (es.size + 1))) (fun _ s' => wpAny (model P w) A (pure true) Q E s') E { s with heap := h1 } := by
          rcases two with ⟨_, e⟩ | ⟨_, e⟩
          · exact lay 31 (by rw [e, size_20]) (.inr (.inl rfl)) (by rw [e, size_20]; decide) (by omega)
          · exact lay 127 (by rw [e, size_76]) (.inr (.inr rfl)) (by rw [e, size_76]; decide) (by omega)
        first
          | exact wpAny_bind (wp_if_pos hf' go)
          | exact wp_if_pos hf' (wpAny_bind go)
      · have hf' : ¬ (!false && t2.tooFull) = true := by simpa using hf
        have end1 : wpAny (model P w) A (pure true) Q E { s with heap := h1 } := by
          rw [full, decide_eq_true_eq] at hf
          exact wpAny_pure (fin true h1 M1 es1 (ep + 1) t2 sb ⟨⟨_, ho1, ex1, rfl⟩, hin, T2, once1, mem1, led1, by rw [hlen, m2]; omega, by rw [hlen]; exact few⟩ (fun z => absurd z n) fun _ => pm)
        first
          | exact wp_if_neg hf' end1
          | exact wpAny_bind (wp_if_neg hf' (wpAny_pure end1))
    have any : ∀ b, wpAny (model P w) A (putTail a es.size es1 (if b = true then t1 else { t1 with plain := false })) Q E s := by
      intro b
      cases b
      · exact tail { t1 with plain := false } (plain_tab q3 false) q4 q5 q9
      · exact tail t1 q3 q4 q5 q9
    by_cases hp : t1.plain = true
    · first
        | (refine wpAny_bind (wp_if_pos hp (hb_key k _ 8 s _ _ hx.1 fun b => ?_)); exact any b)
        | (refine wp_if_pos hp (wpAny_bind (hb_key k _ 8 s _ _ hx.1 fun b => ?_)); exact any b)
    · first
        | (refine wpAny_bind (wp_if_neg hp (wpAny_pure ?_)); exact any true)
        | (refine wp_if_neg hp (wpAny_bind (wpAny_pure ?_)); exact any true)
        | (refine wp_if_neg hp ?_; exact any true)
end
end PB

set_option maxHeartbeats 4000000
namespace PB
open PySem PySem.Spec PyProof.Rows L2
/-- what a set has of the first i -/
structure Has (ks : List Mb) (i : Nat) (M : List Mb) : Prop where
  sub : ∀ m ∈ M, m ∈ ks.take i
  all : ∀ m ∈ ks.take i, m.2 ∈ keysOf M
  len : M.length ≤ i
theorem Has.next {ks M M' : List Mb} {i : Nat} {x : Mb} (g : Has ks i M) (h : ks[i]? = some x) (c1 : x.2 ∈ keysOf M → M' = M) (c2 : x.2 ∉ keysOf M → M'.Perm (x :: M)) : Has ks (i + 1) M' := by
  have e : ks.take (i + 1) = ks.take i ++ [x] := by rw [List.take_succ, h]; rfl
  by_cases c : x.2 ∈ keysOf M
  · rw [c1 c]
    refine ⟨fun m hm => ?_, fun m hm => ?_, Nat.le_succ_of_le g.len⟩
    · rw [e]
      exact List.mem_append_left _ (g.sub m hm)
    · rw [e, List.mem_append, List.mem_singleton] at hm
      rcases hm with z | z
      · exact g.all m z
      · rw [z]; exact c
  · have pm := c2 c
    refine ⟨fun m hm => ?_, fun m hm => ?_, by rw [pm.length_eq]; exact Nat.succ_le_succ g.len⟩
    · rw [e, List.mem_append, List.mem_singleton]
      rcases List.mem_cons.mp (pm.mem_iff.mp hm) with z | z
      · exact .inr z
      · exact .inl (g.sub m z)
    · have pm2 : m.2 ∈ keysOf M' ↔ m.2 ∈ keysOf (x :: M) := (pm.map Prod.snd).mem_iff
      rw [pm2]
      rw [e, List.mem_append, List.mem_singleton] at hm
      rcases hm with z | z
      · exact List.mem_cons_of_mem _ (g.all m z)
      · rw [z]; exact List.mem_cons_self
section
variable {P : Program} {w : World} {A : Around} {E : Value → Shared → Prop} {s : Shared}
theorem SetN.keep {h h' : Heap} {a : Addr} {M : List Mb} {es : Array (Int × Value)} {ep : Nat} {t : SetTable} (R : SetN w h a M es ep t) (ha : ∀ o, h.get? a = some o → h'.get? a = some o) (hm : ∀ m ∈ M, KeyA h' m.2 m.1) : SetN w h' a M es ep t := by
  obtain ⟨o, ho, r⟩ := R.obj
  exact ⟨⟨o, ha o ho, r⟩, R.list, R.table, R.once, hm, R.led, R.free, R.few⟩
abbrev set0 (w : World) : Obj := { cls := .type "set", dict := none, data := .set #[] 0 (.fresh 0 0 (!w.params.followText "set-order")) }
theorem setN_none {h : Heap} {a : Addr} (ho : h.get? a = some (set0 w)) : SetN w h a [] #[] 0 (.fresh 0 0 (!w.params.followText "set-order")) where
  obj := ⟨_, ho, ⟨rfl, rfl, rfl⟩, rfl⟩
  list := rfl
  table := ⟨.nil, rfl, rfl, .inl rfl, fun _ hx => (by cases hx), fun i _ _ hi => (by simp at hi)⟩
  once := .nil
  mem := fun _ hm => (by cases hm)
  led := by
    cases hq : w.params.followText "set-order"
    · exact .inr rfl
    · exact .inl rfl
  free := by show 0 * 5 < 7 * 3; decide
  few := by show 0 < 64; decide
theorem fill {I : Addr} {fp wr : List Addr} {G : Array GenState → Array GenState → Prop} {n : Nat} {Pv : Nat → Value → Prop} {St : Nat → Shared → Prop} {R : Result → Shared → Prop}
    (W : WalksS P w A.in1 I fp wr G n Pv St) (S : Addr) (hS : S ∉ fp) (ks : List Mb) (hn : n = ks.length) (few : ks.length < 64) (val : ∀ i v, Pv i v → ∃ m, ks[i]? = some m ∧ v = .ref m.1)
    (h0 : Heap) (hk : ∀ m ∈ ks, KeyA h0 m.2 m.1) (hS0 : h0.get? S = none) (hw0 : ∀ b ∈ wr, h0.get? b = none) (hu : A.in1.units + 8 < cLine) :
    ∀ (k i : Nat) (s : Shared), n - i = k → i ≤ n → St i s → (∀ b o, h0.get? b = some o → s.heap.get? b = some o) → (∃ M es ep t, SetN w s.heap S M es ep t ∧ Has ks i M) →
      (∀ s' M es ep t, Moved (S :: wr) G s s' → SetN w s'.heap S M es ep t → Has ks n M → (∀ b o, h0.get? b = some o → s'.heap.get? b = some o) → R (.ok (.ret .none)) s') →
      codeAny (model P w) A (.builtin "set.update.loop" ⟨[.ref S, .ref I], []⟩) R s := by
  have nw : S ∉ wr := fun z => hS (W.sub _ z)
  have up : ∀ b ∈ wr, b ∈ S :: wr := fun b hb => List.mem_cons_of_mem _ hb
  have kept : ∀ {s s' : Shared}, Moved wr G s s' → (∀ b o, h0.get? b = some o → s.heap.get? b = some o) → ∀ b o, h0.get? b = some o → s'.heap.get? b = some o := fun mv q b o e =>
    mv.heap b o (fun z => by rw [hw0 b z] at e; cases e) (q b o e)
  intro k
  induction k with
  | zero =>
    intro i s hki hi st q ⟨M, es, ep, t, R1, g⟩ fin
    obtain rfl : i = n := by omega
    refine codeAny_builtin F.entry_set_update_loop ?_
    rw [Around.under_plainId F.plain_set_update_loop _]
    refine wpAny_bind (m := pyNext (.ref I)) (W.done s _ _ st fun s' mv => ?_)
    have q' := kept mv q
    exact wpAny_pure (fin s' M es ep t (mv.mono up) (R1.keep (fun o e => mv.heap S o nw e) fun m hm => (hk m (List.mem_of_mem_take (g.sub m hm))).keep q') g q')
  | succ k ih =>
    intro i s hki hi st q ⟨M, es, ep, t, R1, g⟩ fin
    have lt : i < n := by omega
    refine codeAny_builtin F.entry_set_update_loop ?_
    rw [Around.under_plainId F.plain_set_update_loop _]
    refine wpAny_bind (m := pyNext (.ref I)) (W.item i s _ _ lt st fun v s' pv st' mv => ?_)
    obtain ⟨x, hx, rfl⟩ := val i v pv
    have q' := kept mv q
    have R2 : SetN w s'.heap S M es ep t := R1.keep (fun o e => mv.heap S o nw e) fun m hm => (hk m (List.mem_of_mem_take (g.sub m hm))).keep q'
    have kx : KeyA s'.heap x.2 x.1 := (hk x (List.mem_of_getElem? hx)).keep q'
    refine wpAny_bind (m := holding [Value.ref x.1] (setAdd S (.ref x.1))) (wpAny_holding ?_)
    unfold setAdd
    refine wpAny_holding (wpAny_bind (pyHash_key x.2 _ _ s' _ kx.1 (by have := kx.2; omega) ?_))
    refine put_in (s := { s' with toks := s'.toks + x.2.draws }) R2 kx hu (by have := g.len; omega) fun b h' M' es' ep' t' sb R3 c1 c2 => ?_
    have g' := g.next hx c1 c2
    have q2 : ∀ b o, h0.get? b = some o → h'.get? b = some o := fun b o e => (sb.2 b (fun z => by rw [z, hS0] at e; cases e)).trans (q' b o e)
    refine wpAny_pure ⟨plainId_quiet F.plain_set_update_loop _, ih (i + 1) _ (by omega) lt (W.frame _ s' _ _ st' (Nat.le_add_right _ _) fun b hb o e => ?_) q2 ⟨M', es', ep', t', R3, g'⟩ fun s2 M2 es2 ep2 t2 mv2 R4 g2 q3 => ?_⟩
    · rw [sb.2 b (fun z : b = S => hS (z ▸ hb))]
      exact e
    · refine fin s2 M2 es2 ep2 t2 (Moved.trans W.gtrans ((mv.mono up).then_heap (Nat.le_add_right _ _) fun b o hb e => ?_) mv2) R4 g2 q3
      rw [sb.2 b (fun z : b = S => hb (z ▸ List.mem_cons_self))]
      exact e
theorem free_at {h : Heap} {b : Addr} (hb : h.objs.size ≤ b) : h.get? b = none := by
  cases q : h.get? b with
  | none => rfl
  | some o => exact absurd (Nat.lt_of_lt_of_le (Heap.lt_size q) hb) (Nat.lt_irrefl _)
/-- set(xs) -/
theorem call_set {l : Addr} {its : Array Value} (ks : List Mb) {Q : Value → Shared → Prop} (hh : A.handled = none) (hl : s.heap.IsList l its ∨ s.heap.IsTuple l its) (hit : its.toList = ks.map fun m => Value.ref m.1)
    (hk : ∀ m ∈ ks, KeyA s.heap m.2 m.1) (few : ks.length < 64) (hu : A.units + 64 < cLine)
    (fin : ∀ (h' : Heap) (tk : Nat) M es ep t, SetN w h' s.heap.objs.size M es ep t → Has ks ks.length M → (∀ b o, s.heap.get? b = some o → h'.get? b = some o) → Q (.ref s.heap.objs.size) { s with heap := h', toks := tk }) :
    wpAny (model P w) A (call (.type "set") [.ref l]) Q E s := by
  have hz : its.size = ks.length := by rw [← Array.length_toList, hit, List.length_map]
  obtain ⟨c, tl, hmro⟩ := F.called_set.mro
  have hmade := F.called_set.made
  have hsub := F.called_set.sub
  refine wpAny_call (codeAny_of_tree ?_)
  show wpAny _ _ (callAny (.type "set") _) _ _ _
  refine wpAny_pure ⟨Code.quiet_builtin _ (by decide +kernel), codeAny_builtin F.entry_type_call ?_⟩
  rw [Around.under_plain (weight_type_call_type "set" [.ref l] []) rfl]
  have h1 := F.called_set.notType
  have h2 := F.called_set.canCreate
  have hct := F.typeCall_set_1 (.ref l)
  repeat (any_goals (first | assumption | wp_step))
  refine codeAny_mono (code_set_led1 (.ref l) (E := E) (Q₁ := fun obj s₁ => obj = .ref s.heap.objs.size ∧ s₁ = { s with heap := s.heap.push (set0 w) }) ⟨rfl, rfl⟩) fun r s₁ hr => ?_
  cases r with
  | error e => exact hr
  | ok fl =>
    cases fl with
    | ret obj =>
      obtain ⟨rfl, rfl⟩ := hr
      have hS : (s.heap.push (set0 w)).get? s.heap.objs.size = some (set0 w) := Heap.get?_push_size _ rfl
      have hT : Shared.TypeIs { s with heap := s.heap.push (set0 w) } (.ref s.heap.objs.size) "set" := ⟨_, hS, rfl⟩
      have hli := F.called_set.init.lookup
      have hbi := F.called_set.init.bind (.ref s.heap.objs.size)
      repeat (any_goals (first | assumption | wp_step))
      refine codeAny_mono (codeAny_call_builtin (R := wants (fun r s₂ => r = .none ∧ ∃ h' tk M es ep t, s₂ = { s with heap := h', toks := tk } ∧ SetN w h' s.heap.objs.size M es ep t ∧ Has ks ks.length M ∧
          (∀ b o, s.heap.get? b = some o → h'.get? b = some o)) E) F.called_set.init.plain F.entry_set_init (check_set_init_1 hT ?_)) fun r₂ s₂ hr₂ => ?_
      · have h3 : A.in1.in1.in1.handled = none := by simp [hh]
        have val : ∀ (i : Nat) (v : Value), its[i]? = some v → ∃ m, ks[i]? = some m ∧ v = .ref m.1 := fun i v hv => by
          rw [← Array.getElem?_toList, hit, List.getElem?_map, Option.map_eq_some_iff] at hv
          obtain ⟨m, q1, q2⟩ := hv
          exact ⟨m, q1, q2.symm⟩
        have z1 : (s.heap.push (set0 w)).objs.size = s.heap.objs.size + 1 := Heap.size_push ..
        have low : l < s.heap.objs.size := by
          rcases hl with ⟨o, q, _⟩ | ⟨o, q, _⟩ <;> exact Heap.lt_size q
        have ne : l ≠ (s.heap.push (set0 w)).objs.size := by
          rw [z1]
          exact Nat.ne_of_lt (Nat.lt_succ_of_lt low)
        have nS : s.heap.objs.size ∉ [(s.heap.push (set0 w)).objs.size, l] := by
          rw [z1, List.mem_cons, List.mem_singleton, not_or]
          exact ⟨Nat.ne_of_lt (Nat.lt_succ_self _), Nat.ne_of_gt low⟩
        rcases hl with hl | hl
        · obtain ⟨ol, hol, hcl, nl, hdl⟩ := hl
          obtain ⟨oc, od, odt, osl⟩ := ol
          simp only at hcl hdl
          subst hcl hdl
          have hol' : (s.heap.push (set0 w)).get? l = some { cls := .type "list", dict := od, data := .seq its nl, slots := osl } := Heap.get?_push_of_some _ hol
          have e1 := F.sub_list_set
          have e2 := F.sub_list_frozenset
          have e3 : (Value.type "list" == Value.type "dict") = false := by decide
          have hl1 : (s.heap.push (set0 w)).IsList l its := ⟨_, hol', rfl, nl, rfl⟩
          unfold Builtin.«set.__init__» noKeywords Builtin.Frozenset.updateFrom
          generalize hPI : pyIter = PI
          wp_walk
          subst hPI
          refine wpAny_pyIter_list hl1 (wpAny_bind (wpAny_runValue ?_))
          refine fill ((Walks.list h3 _ l ne its).toS) s.heap.objs.size nS ks hz few val s.heap hk (free_at (Nat.le_refl _)) (fun b hb => free_at (by rw [List.mem_singleton.mp hb, z1]; exact Nat.le_succ _)) (by simp only [Around.in1_units]; omega)
            (its.size - 0) 0 _ (by omega) (Nat.zero_le _) ⟨⟨_, Heap.get?_push_size _ rfl, rfl, rfl⟩, hl1.push _⟩ (fun b o e => Heap.get?_push_of_some _ (Heap.get?_push_of_some _ e)) ⟨[], #[], 0, _, setN_none (Heap.get?_push_of_some _ hS), ⟨fun _ h => (by cases h), fun _ h => (by simp at h), Nat.le_refl _⟩⟩ ?_
          intro s' M es ep t mv R g kp
          obtain ⟨h', g2, d', tk', os'⟩ := s'
          cases (show g2 = s.gens from mv.gens)
          cases (show d' = s.drawn from mv.drawn)
          cases (show os' = s.os from mv.os)
          rw [hz] at g
          exact wpAny_pure (wpAny_pure ⟨rfl, h', tk', M, es, ep, t, rfl, R, g, kp⟩)
        · obtain ⟨ol, hol, hcl, nl, hdl⟩ := hl
          obtain ⟨oc, od, odt, osl⟩ := ol
          simp only at hcl hdl
          subst hcl hdl
          have hol' : (s.heap.push (set0 w)).get? l = some { cls := .type "tuple", dict := od, data := .seq its nl, slots := osl } := Heap.get?_push_of_some _ hol
          have e1 := F.sub_tuple_set
          have e2 := F.sub_tuple_frozenset
          have e3 : (Value.type "tuple" == Value.type "dict") = false := by decide
          have hl1 : (s.heap.push (set0 w)).IsTuple l its := ⟨_, hol', rfl, nl, rfl⟩
          unfold Builtin.«set.__init__» noKeywords Builtin.Frozenset.updateFrom
          generalize hPI : pyIter = PI
          wp_walk
          subst hPI
          refine wpAny_pyIter_tuple hl1 (wpAny_bind (wpAny_runValue ?_))
          refine fill ((Walks.tuple h3 _ l ne its).toS) s.heap.objs.size nS ks hz few val s.heap hk (free_at (Nat.le_refl _)) (fun b hb => free_at (by rw [List.mem_singleton.mp hb, z1]; exact Nat.le_succ _)) (by simp only [Around.in1_units]; omega)
            (its.size - 0) 0 _ (by omega) (Nat.zero_le _) ⟨⟨_, Heap.get?_push_size _ rfl, rfl, rfl⟩, hl1.at fun o e => Heap.get?_push_of_some _ e⟩ (fun b o e => Heap.get?_push_of_some _ (Heap.get?_push_of_some _ e)) ⟨[], #[], 0, _, setN_none (Heap.get?_push_of_some _ hS), ⟨fun _ h => (by cases h), fun _ h => (by simp at h), Nat.le_refl _⟩⟩ ?_
          intro s' M es ep t mv R g kp
          obtain ⟨h', g2, d', tk', os'⟩ := s'
          cases (show g2 = s.gens from mv.gens)
          cases (show d' = s.drawn from mv.drawn)
          cases (show os' = s.os from mv.os)
          rw [hz] at g
          exact wpAny_pure (wpAny_pure ⟨rfl, h', tk', M, es, ep, t, rfl, R, g, kp⟩)
      · cases r₂ with
        | error e => exact hr₂
        | ok fl₂ =>
          cases fl₂ with
          | ret r =>
            obtain ⟨rfl, h', tk, M, es, ep, t, rfl, R, g, kp⟩ := hr₂
            repeat (any_goals (first | assumption | wp_step))
            exact fin _ _ _ _ _ _ R g kp
          | _ => exact hr₂.elim
    | _ => exact hr.elim
end
end PB

set_option maxHeartbeats 4000000
namespace PB
open PySem PySem.Spec PyProof.Rows L2
open PySem.W (alike alikeAll dataLt dataLe keyToks keyToksAll AllAlike Sortable EachIs)
/-! ### the order of data -/
mutual
theorem eqv_alike : ∀ (x y : D), alike x y = true → PyData.eqv x y = true → x = y
  | .none, y, h, e => by cases y <;> simp_all [alike, PyData.eqv]
  | .bool b, y, h, e => by cases y <;> simp_all [alike, PyData.eqv]
  | .int b, y, h, e => by cases y <;> simp_all [alike, PyData.eqv]
  | .str b, y, h, e => by cases y <;> simp_all [alike, PyData.eqv]
  | .list xs, y, h, e => by
    cases y with
    | list ys => rw [eqvs_alike xs ys (by simpa [alike] using h) (by simpa [PyData.eqv] using e)]
    | _ => simp [alike] at h
  | .tuple xs, y, h, e => by
    cases y with
    | tuple ys => rw [eqvs_alike xs ys (by simpa [alike] using h) (by simpa [PyData.eqv] using e)]
    | _ => simp [alike] at h
  | .dict xs, y, h, e => by cases y <;> simp [alike] at h
theorem eqvs_alike : ∀ (xs ys : List D), alikeAll xs ys = true → PyData.eqvAll xs ys = true → xs = ys
  | [], [], _, _ => rfl
  | [], _ :: _, _, e => by simp [PyData.eqvAll] at e
  | _ :: _, [], _, e => by simp [PyData.eqvAll] at e
  | x :: xs, y :: ys, h, e => by
    obtain ⟨h1, h2⟩ := W.alike_all_cons h
    rw [PyData.eqvAll, Bool.and_eq_true] at e
    rw [eqv_alike x y h1 e.1, eqvs_alike xs ys h2 e.2]
end
theorem toks_alike {x y : D} (h : alike x y = true) (e : keyToks x = keyToks y) : x = y := by
  refine eqv_alike x y h ?_
  cases q : PyData.eqv x y with
  | true => rfl
  | false =>
    have := (W.toks_eqv x y h).2 q [] [.inl 0]
    rw [e, List.append_nil] at this
    have z : lexLt itemOrd (keyToks y) (keyToks y ++ [.inl 0]) = lexLt itemOrd [] [.inl 0] := by
      have := W.lex_pre (keyToks y) [] [.inl 0]
      rwa [List.append_nil] at this
    rw [z, lex_irrefl] at this
    cases this
theorem lt_irrefl (x : D) : dataLt x x = false := lex_irrefl _
theorem lt_trans {x y z : D} (h1 : dataLt x y = true) (h2 : dataLt y z = true) : dataLt x z = true := lex_trans _ _ _ h1 h2
theorem lt_total {x y : D} (h : alike x y = true) (h1 : dataLt x y = false) (h2 : dataLt y x = false) : x = y := toks_alike h (lex_total _ _ h1 h2)
theorem lt_asymm {x y : D} (h : dataLt x y = true) : dataLt y x = false := by
  cases q : dataLt y x with
  | false => rfl
  | true =>
    have := lt_trans h q
    rw [lt_irrefl] at this
    cases this
/-- a ≤ b -/
def leD (a b : D) : Bool := !dataLt b a
theorem leD_eq : dataLe (β := D) false (fun d => d) = leD := rfl
theorem leD_trans (a b c : D) (h1 : leD a b = true) (h2 : leD b c = true) : leD a c = true := by
  unfold leD at *
  cases q : dataLt c a with
  | false => rfl
  | true =>
    rcases lex_negTrans (O := itemOrd) (keyToks c) (keyToks b) (keyToks a) q with z | z
    · rw [show dataLt c b = true from z] at h2
      cases h2
    · rw [show dataLt b a = true from z] at h1
      cases h1
theorem leD_total (a b : D) : (leD a b || leD b a) = true := by
  unfold leD
  cases q : dataLt a b with
  | false => simp
  | true => simp [lt_asymm q]
theorem leD_anti {a b : D} (h : alike a b = true) (h1 : leD a b = true) (h2 : leD b a = true) : a = b := by
  unfold leD at *
  exact lt_total h (by simpa using h2) (by simpa using h1)
theorem sorted_same {α : Type} {r : α → α → Prop} : ∀ {l m : List α}, l.Perm m → l.Pairwise r → m.Pairwise r → (∀ a ∈ l, ∀ b ∈ l, r a b → r b a → a = b) → l = m
  | [], m, p, _, _, _ => (List.Perm.nil_eq p)
  | a :: l, [], p, _, _, _ => absurd p.length_eq (by simp)
  | a :: l, b :: m, p, h1, h2, an => by
    rw [List.pairwise_cons] at h1 h2
    have e : a = b := by
      have ha : a ∈ b :: m := p.mem_iff.mp List.mem_cons_self
      have hb : b ∈ a :: l := p.mem_iff.mpr List.mem_cons_self
      rcases List.mem_cons.mp ha with e | ha
      · exact e
      · rcases List.mem_cons.mp hb with e | hb'
        · exact e.symm
        · exact an a List.mem_cons_self b hb (h1.1 b hb') (h2.1 a ha)
    subst e
    rw [sorted_same (List.Perm.cons_inv p) h1.2 h2.2 fun x hx y hy => an x (List.mem_cons_of_mem _ hx) y (List.mem_cons_of_mem _ hy)]
def srt (ds : List D) : List D := ds.mergeSort leD
theorem srt_perm (ds : List D) : (srt ds).Perm ds := List.mergeSort_perm ds leD
theorem srt_le (ds : List D) : (srt ds).Pairwise (fun a b => leD a b = true) := List.pairwise_mergeSort leD_trans leD_total ds
def allAlike (ds : List D) : Bool := ds.all fun d => ds.all fun d' => alike d d'
theorem allAlike_iff {ds : List D} : allAlike ds = true ↔ AllAlike ds := by simp [allAlike, AllAlike]
theorem srt_of_perm {l m : List D} (p : l.Perm m) (h : AllAlike l) : srt l = srt m :=
  sorted_same (((srt_perm l).trans p).trans (srt_perm m).symm) (srt_le l) (srt_le m) fun a ha b hb h1 h2 => leD_anti (h a ((srt_perm l).mem_iff.mp ha) b ((srt_perm l).mem_iff.mp hb)) h1 h2
def tup1 : D → Bool
  | .tuple (_ :: _) => true
  | _ => false
def plainD : D → Bool
  | .none | .tuple _ => false
  | _ => true
def sortable (ds : List D) : Bool := ds.all tup1 || ds.all plainD
theorem sortable_of {ds : List D} (h : sortable ds = true) : Sortable ds := by
  simp only [sortable, Bool.or_eq_true, List.all_eq_true] at h
  rcases h with h | h
  · refine .inl fun d hd => ?_
    have := h d hd
    unfold tup1 at this
    split at this
    · exact ⟨_, _, rfl⟩
    · cases this
  · refine .inr fun d hd => ?_
    have := h d hd
    constructor
    · rintro rfl
      cases this
    · rintro xs rfl
      cases this
def depthOk (ds : List D) : Bool := decide (PyData.depthAll ds ≤ 8)
theorem depth_mem' {ds : List D} (h : PyData.depthAll ds ≤ 8) : ∀ d ∈ ds, d.depth ≤ 8 := by
  induction ds with
  | nil => intro d hd; cases hd
  | cons x r ih =>
    simp only [PyData.depthAll] at h
    intro d hd
    rcases List.mem_cons.mp hd with e | hd
    · rw [e]; omega
    · exact ih (by omega) d hd
theorem depth_mem {ds : List D} (h : depthOk ds = true) : ∀ d ∈ ds, d.depth ≤ 8 := depth_mem' (of_decide_eq_true h)
/-- what can be sorted -/
def sortOk (ds : List D) : Bool := allAlike ds && sortable ds && depthOk ds && szOk ds.length

/-! ### sorted(a list) -/
theorem each_of {α β γ : Type} {R : α → β → Prop} : ∀ {vs : List α} {bs : List β}, vs.length = bs.length → (∀ p ∈ vs.zip bs, R p.1 p.2) → EachIs R vs bs
  | [], [], _, _ => .nil
  | [], _ :: _, h, _ => absurd h (by simp)
  | _ :: _, [], h, _ => absurd h (by simp)
  | v :: vs, b :: bs, h, k => .cons (k (v, b) (by simp)) (each_of (γ := γ) (by simpa using h) fun p hp => k p (by simp [hp]))
theorem dpa_pairs {K : Frag} {H : Hp} : ∀ {vs : List V} {ds : List D}, DpAll K H vs ds → ∃ ps : List (V × D), vs = ps.map (·.1) ∧ ds = ps.map (·.2) ∧ ∀ p ∈ ps, Dp K H p.1 p.2
  | _, _, .nil => ⟨[], rfl, rfl, fun p hp => (by cases hp)⟩
  | _, _, .cons h t => by
    obtain ⟨ps, h1, h2, h3⟩ := dpa_pairs t
    refine ⟨(_, _) :: ps, by rw [List.map_cons, h1], by rw [List.map_cons, h2], fun p hp => ?_⟩
    rcases List.mem_cons.mp hp with e | hp
    · rw [e]; exact h
    · exact h3 p hp
theorem pairs_dpa {K : Frag} {H : Hp} : ∀ {ps : List (V × D)}, (∀ p ∈ ps, Dp K H p.1 p.2) → DpAll K H (ps.map (·.1)) (ps.map (·.2))
  | [], _ => .nil
  | p :: ps, h => .cons (h p List.mem_cons_self) (pairs_dpa fun q hq => h q (List.mem_cons_of_mem _ hq))
theorem each_rel : ∀ {out : List Value} {ps : List (V × D)}, EachIs (fun v (p : V × D) => RelV p.1 v) out ps → Vals (ps.map (·.1)) out
  | _, _, .nil => .nil
  | _, _, .cons h t => .cons h (each_rel t)
theorem rel_each : ∀ {out : List Value} {ps : List (V × D)}, Vals (ps.map (·.1)) out → EachIs (fun v (p : V × D) => RelV p.1 v) out ps
  | [], [], _ => .nil
  | _, p :: ps, h => by
    cases h with
    | cons r t => exact .cons r (rel_each t)
def srtP (ps : List (V × D)) : List (V × D) := ps.mergeSort (dataLe false (·.2))
theorem srtP_map (ps : List (V × D)) : (srtP ps).map (·.2) = srt (ps.map (·.2)) := List.map_mergeSort fun a _ b _ => rfl
section
variable {X : Cx}
def rSort (K : Frag) : List V → Hp → VK → Prop := fun xs H Q => ∃ (l : Addr) (ps : List (V × D)), xs = [V.ref l] ∧ SqL K H l (ps.map (·.1)) ∧ (∀ p ∈ ps, Dp K H p.1 p.2) ∧ sortOk (ps.map (·.2)) = true ∧
  ∀ p, H p = none → Q (.ref p) (upd H p (.lst ((srtP ps).map (·.1))))
theorem sortOk_parts {ds : List D} (h : sortOk ds = true) : AllAlike ds ∧ Sortable ds ∧ (∀ d ∈ ds, d.depth ≤ 8) ∧ ds.length ≤ 100000 := by
  simp only [sortOk, Bool.and_eq_true] at h
  obtain ⟨⟨⟨h1, h2⟩, h3⟩, h4⟩ := h
  exact ⟨allAlike_iff.mp h1, sortable_of h2, depth_mem h3, of_decide_eq_true h4⟩
theorem cr_sort (hu : X.A.units + 64 < cLine) : CallR X (.builtin "sorted") (rSort (X.fg tq)) := by
  intro pins s σ H xs us Q I r h
  obtain ⟨l, ps, rfl, hl, hd, hok, q⟩ := h
  obtain ⟨k1, k2, k3, k4⟩ := sortOk_parts hok
  rw [Vals.ref1 r]
  obtain ⟨its, rv, pl, hz⟩ := I.list hl
  have e := rel_each rv
  have er : EachIs (fun v (b : V × D) => ∃ as, Reads s.heap v b.2 as) its ps := (W.each_mem e).mono fun v b ⟨r1, hb⟩ => rdp I (hd b hb) (noDc_alike _ (k1 _ (List.mem_map.mpr ⟨b, hb, rfl⟩) _ (List.mem_map.mpr ⟨b, hb, rfl⟩))) r1
  have hlen : ps.length ≤ sizeLine := by rw [sizeLine_eq]; rw [List.length_map] at k4; omega
  refine W.sorted_data (enc := fun p : V × D => p.2) (bs := ps) (R := fun v p => RelV p.1 v) pl.isList e er k1 k2 hlen (fun b hb => ?_) fun out ho eo => ?_
  · have := k3 b.2 (List.mem_map.mpr ⟨b, hb, rfl⟩)
    omega
  · have hfresh : H (s.heap.objs.size + 1) = none := I.hok.fresh (Nat.le_succ _)
    obtain ⟨c, hc⟩ := sortedAll_at s.heap its out.toArray
    have e' : EachIs (fun v (p : V × D) => RelV p.1 v) out (srtP ps) := eo
    have hv := each_rel e'
    exact ⟨.ref _, _, I.laid (t' := s.toks) (o := .lst ((srtP ps).map (·.1))) (fun b o z => sortedAll_old z) (Nat.le_succ _) ⟨by rw [List.length_map]; unfold srtP; rw [List.length_mergeSort]; exact hlen, out, c, hv, hc⟩, rfl, q _ hfresh⟩
variable {a : Expr} {ma : ME} {pos p : Pos}
def mSort (a : ME) : ML := fun e => (a e).bind fun r => match r.1 with
  | .list ds => if sortOk ds = true then some (srt ds, r.2) else none
  | _ => none
theorem boot_sorted' : bootBuiltins "sorted" = some (.builtin "sorted") := by decide +kernel
theorem jn_sorted (hu : X.A.units + 64 < cLine) (hg : Gl X "sorted") (hm : X.mg "sorted" = none) (ha : PE X a (tOf (X.fg tq) ma)) (he : starEach [a] X.env = (false, eval a X.env) :: starEach [] X.env := by rfl) (hpl : (backTo pos (starEach [] X.env)).any (·.1) = false := by rfl) :
    PE X (.Call (.Name "sorted" p) [a] [] pos) (tNOf (X.fg tq) (mSort ma)) := by
  refine PE.imp (pe_callB (cr_sort (tq := tq) hu) hg hm boot_sorted' (pa_cons ha pa_nil he) (by decide) (by decide) he hpl) ?_
  rintro σ H Q ⟨G, e, d, e', rel, hm, k⟩
  obtain ⟨⟨d1, e1⟩, h1, hm⟩ := Option.bind_eq_some_iff.mp hm
  simp only at hm
  split at hm
  · split at hm
    · rename_i ds hok
      cases hm
      refine ⟨G, e, _, _, rel, h1, fun v H1 s1 r1 dp => ?_⟩
      obtain ⟨l, xs, rfl, q1, t1⟩ := dp_list dp
      obtain ⟨ps, rfl, rfl, hd⟩ := dpa_pairs t1
      refine ⟨l, ps, rfl, same_cut.seq q1, fun p hp => dp_mono same_cut (hd p hp), hok, fun pp hp => ?_⟩
      have hd2 : ∀ q ∈ srtP ps, Dp (X.fg tq) (vis G σ e' H1) q.1 q.2 := fun q hq => hd q ((List.mergeSort_perm _ _).mem_iff.mp hq)
      have dps := pairs_dpa hd2
      rw [srtP_map] at dps
      exact k pp _ _ (s1.trans (.grow (same_new hp))) (r1.foreign hp) (s1.there pp hp) upd_same (dpa_mono (vis_foreign hp) dps)
    · cases hm
  · cases hm
end
end PB

set_option maxHeartbeats 4000000
namespace PB
open PySem PySem.Spec PyProof.Rows L2
open PySem.W (alike alikeAll dataLt dataLe keyToks keyToksAll AllAlike Sortable EachIs)
/-! ### data as keys -/
mutual
def nkOf : D → Option Nk
  | .none => some .none
  | .int i => some (.num i)
  | .str x => some (.text x)
  | .tuple ds => (nksOf ds).map .tup
  | .bool _ => none
  | .list _ => none
  | .dict _ => none
def nksOf : List D → Option (List Nk)
  | [] => some []
  | d :: r => (nkOf d).bind fun k => (nksOf r).map (k :: ·)
end
mutual
theorem nk_data : ∀ (d : D) (k : Nk), nkOf d = some k → k.data = d
  | .none, k, h => by simp only [nkOf, Option.some.injEq] at h; subst h; simp [NestedKey.data]
  | .int _, k, h => by simp only [nkOf, Option.some.injEq] at h; subst h; simp [NestedKey.data]
  | .str _, k, h => by simp only [nkOf, Option.some.injEq] at h; subst h; simp [NestedKey.data]
  | .tuple ds, k, h => by
    rw [nkOf, Option.map_eq_some_iff] at h
    obtain ⟨ks, h1, rfl⟩ := h
    rw [NestedKey.data, nks_data ds ks h1]
  | .bool _, k, h => by simp [nkOf] at h
  | .list _, k, h => by simp [nkOf] at h
  | .dict _, k, h => by simp [nkOf] at h
theorem nks_data : ∀ (ds : List D) (ks : List Nk), nksOf ds = some ks → NestedKey.datas ks = ds
  | [], ks, h => by simp only [nksOf, Option.some.injEq] at h; subst h; simp [NestedKey.datas]
  | d :: r, ks, h => by
    rw [nksOf, Option.bind_eq_some_iff] at h
    obtain ⟨k, h1, h⟩ := h
    rw [Option.map_eq_some_iff] at h
    obtain ⟨ks', h2, rfl⟩ := h
    rw [NestedKey.datas, nk_data d k h1, nks_data r ks' h2]
end
mutual
theorem data_nk : ∀ k : Nk, nkOf k.data = some k
  | .none => by simp [NestedKey.data, nkOf]
  | .num _ => by simp [NestedKey.data, nkOf]
  | .text _ => by simp [NestedKey.data, nkOf]
  | .tup ks => by rw [NestedKey.data, nkOf, data_nks ks]; rfl
theorem data_nks : ∀ ks : List Nk, nksOf (NestedKey.datas ks) = some ks
  | [] => by simp [NestedKey.datas, nksOf]
  | k :: ks => by rw [NestedKey.datas, nksOf, data_nk k, Option.bind_some, data_nks ks]; rfl
end
theorem data_inj {k j : Nk} (h : k.data = j.data) : k = j := by
  have := data_nk k
  rw [h, data_nk j] at this
  exact (Option.some.inj this).symm
mutual
theorem nk_reads {h : Heap} : ∀ (d : D) (k : Nk) (u : Value) (as : List Addr), Reads h u d as → nkOf d = some k → NestedIs h k u
  | .none, k, u, as, r, e => by simp only [nkOf, Option.some.injEq] at e; subst e; cases r; exact .none
  | .int _, k, u, as, r, e => by simp only [nkOf, Option.some.injEq] at e; subst e; cases r; exact .int _ _
  | .str _, k, u, as, r, e => by simp only [nkOf, Option.some.injEq] at e; subst e; cases r; exact .text _ _
  | .tuple ds, k, u, as, r, e => by
    rw [nkOf, Option.map_eq_some_iff] at e
    obtain ⟨ks, h1, rfl⟩ := e
    cases r with
    | tuple a b c d => exact .tup a b c (nks_reads ds ks _ _ d h1)
  | .bool _, k, u, as, r, e => by simp [nkOf] at e
  | .list _, k, u, as, r, e => by simp [nkOf] at e
  | .dict _, k, u, as, r, e => by simp [nkOf] at e
theorem nks_reads {h : Heap} : ∀ (ds : List D) (ks : List Nk) (us : List Value) (as : List Addr), ReadsAll h us ds as → nksOf ds = some ks → NestedAll h ks us
  | [], ks, us, as, r, e => by simp only [nksOf, Option.some.injEq] at e; subst e; cases r; exact .nil
  | d :: ds, ks, us, as, r, e => by
    rw [nksOf, Option.bind_eq_some_iff] at e
    obtain ⟨k, h1, e⟩ := e
    rw [Option.map_eq_some_iff] at e
    obtain ⟨ks', h2, rfl⟩ := e
    cases r with
    | cons a b => exact .cons (nk_reads d k _ _ a h1) (nks_reads ds ks' _ _ b h2)
end
mutual
theorem nk_depth : ∀ k : Nk, k.depth = k.data.depth
  | .none => by simp [NestedKey.depth, NestedKey.data, PyData.depth]
  | .num _ => by simp [NestedKey.depth, NestedKey.data, PyData.depth]
  | .text _ => by simp [NestedKey.depth, NestedKey.data, PyData.depth]
  | .tup ks => by rw [NestedKey.depth, NestedKey.data, PyData.depth, nks_depth ks]; try omega
theorem nks_depth : ∀ ks : List Nk, NestedKey.depthAll ks = PyData.depthAll (NestedKey.datas ks)
  | [] => by simp [NestedKey.depthAll, NestedKey.datas, PyData.depthAll]
  | k :: ks => by rw [NestedKey.depthAll, NestedKey.datas, PyData.depthAll, nk_depth k, nks_depth ks]
end
/-! each once -/
section
variable {α : Type} [DecidableEq α]
def uniq : List α → List α
  | [] => []
  | x :: r => x :: (uniq r).filter fun y => decide (y ≠ x)
theorem mem_uniq {x : α} : ∀ {l : List α}, x ∈ uniq l ↔ x ∈ l
  | [] => Iff.rfl
  | y :: r => by
    rw [uniq, List.mem_cons, List.mem_filter, mem_uniq, List.mem_cons, decide_eq_true_eq]
    by_cases e : x = y <;> simp [e]
theorem nodup_uniq : ∀ l : List α, (uniq l).Nodup
  | [] => .nil
  | x :: r => by
    rw [uniq, List.nodup_cons]
    exact ⟨fun h => by simpa using (List.mem_filter.mp h).2, (nodup_uniq r).filter _⟩
theorem perm_uniq {l m : List α} (h : l.Nodup) (e : ∀ x, x ∈ l ↔ x ∈ m) : l.Perm (uniq m) := (List.perm_ext_iff_of_nodup h (nodup_uniq m)).mpr fun x => by rw [e, mem_uniq]
end
/-! ### the set as an object -/
structure SetN0 (w : World) (h : Heap) (a : Addr) (M : List Mb) : Prop where
  ex : ∃ (es : Array (Int × Value)) (ep : Nat) (t : SetTable), (∃ o, h.get? a = some o ∧ o.ExactSet ∧ o.data = .set es ep t) ∧ es.toList = M.map (ent w) ∧ TabOk t (M.map (hsh w)) ∧ (keysOf M).Nodup ∧
    (w.params.followText "set-order" = true ∨ t.led = true) ∧ M.length * 5 < t.mask * 3 ∧ M.length < 64
def SetNO (w : World) (a : Addr) (M : List Mb) : HO := .ext fun h => SetN0 w h a M
theorem SetN.less {w : World} {h : Heap} {a : Addr} {M : List Mb} {es : Array (Int × Value)} {ep : Nat} {t : SetTable} (R : SetN w h a M es ep t) : SetN0 w h a M :=
  ⟨es, ep, t, R.obj, R.list, R.table, R.once, R.led, R.free, R.few⟩
theorem SetN0.more {w : World} {h : Heap} {a : Addr} {M : List Mb} (R : SetN0 w h a M) (ht : ∀ m ∈ M, KeyA h m.2 m.1) : ∃ es ep t, SetN w h a M es ep t := by
  obtain ⟨es, ep, t, h1, h2, h3, h4, h6, h7, h8⟩ := R.ex
  exact ⟨es, ep, t, h1, h2, h3, h4, ht, h6, h7, h8⟩
theorem setNO_ok {P : Program} {w : World} {H : Hp} {h : Heap} {a : Addr} {M : List Mb} (R : SetN0 w h a M) : ObjOk P w H h a (SetNO w a M) := by
  have ⟨es, ep, t, ⟨o, ho, r⟩, q⟩ := R.ex
  refine ⟨R, ⟨o, ho⟩, fun h1 h2 p k => ?_⟩
  have ⟨es', ep', t', ⟨o', ho', r'⟩, q'⟩ := SetN0.ex p
  exact ⟨es', ep', t', ⟨o', k o' ho', r'⟩, q'⟩
theorem mb_vals : ∀ (ks : List Mb), Vals (ks.map fun m => V.ref m.1) (ks.map fun m => Value.ref m.1)
  | [] => .nil
  | m :: ks => .cons rfl (mb_vals ks)
theorem vals_mb : ∀ {ks : List Mb} {us : List Value}, Vals (ks.map fun m => V.ref m.1) us → us = ks.map fun m => Value.ref m.1
  | [], _, .nil => rfl
  | m :: ks, _, .cons r t => by
    cases r
    rw [vals_mb t]
    rfl
/-- the members as data -/
def MbOk (K : Frag) (H : Hp) (M : List Mb) : Prop := ∀ m ∈ M, Dp K H (.ref m.1) m.2.data ∧ m.2.depth ≤ 8
section
variable {X : Cx} {pins : List (Addr × Obj)} {σ : SS} {H : Hp} {s : Shared}
theorem mb_key (I : Inv X pins σ H s) {M : List Mb} (h : MbOk (X.fg tq) H M) : ∀ m ∈ M, KeyA s.heap m.2 m.1 := fun m hm => by
  obtain ⟨as, r⟩ := rdp (u := .ref m.1) I (h m hm).1 (noDc_nk _) rfl
  exact ⟨nk_reads _ _ _ _ r (data_nk _), (h m hm).2⟩
def rSet (K : Frag) (w : World) : List V → Hp → VK → Prop := fun xs H Q => ∃ (l : Addr) (ks : List Mb), xs = [V.ref l] ∧ (SqL K H l (ks.map fun m => V.ref m.1) ∨ SqT K H l (ks.map fun m => V.ref m.1)) ∧ MbOk K H ks ∧ ks.length < 64 ∧
  ∀ a M, H a = none → (∀ m ∈ M, m ∈ ks) → (∀ m ∈ ks, m.2 ∈ keysOf M) → (keysOf M).Nodup → Q (.ref a) (upd H a (SetNO w a M))
theorem cr_set (hc : X.calm = true) (hu : X.A.units + 64 < cLine) : CallR X (.type "set") (rSet (X.fg tq) X.w) := by
  intro pins s σ H xs us Q I r h
  obtain ⟨l, ks, rfl, hl, hk, hf, q⟩ := h
  rw [Vals.ref1 r]
  have hn : H s.heap.objs.size = none := I.hok.fresh (Nat.le_refl _)
  have seq : ∃ its : List Value, Vals (ks.map fun m => V.ref m.1) its ∧ (s.heap.IsList l its.toArray ∨ s.heap.IsTuple l its.toArray) := by
    rcases hl with hl | hl
    · obtain ⟨its, rv, pl, _⟩ := I.list hl
      exact ⟨its, rv, .inl pl.isList⟩
    · obtain ⟨its, rv, pl, _⟩ := I.tuple hl
      exact ⟨its, rv, .inr pl⟩
  obtain ⟨its, rv, pl⟩ := seq
  refine call_set (P := X.prog) (w := X.w) ks (I.ok.hd hc) pl (by simpa using vals_mb rv) (mb_key I hk) hf hu fun h' tk M es ep t R g kp => ?_
  exact ⟨.ref s.heap.objs.size, _, I.laid (t' := tk) kp (Nat.le_refl _) (setNO_ok R.less), rfl, q _ M hn (fun m hm => List.mem_of_mem_take (g.sub m hm)) (fun m hm => g.all m (by rw [List.take_length]; exact hm)) R.once⟩
def srtM (M : List Mb) : List Mb := M.mergeSort (dataLe false fun m => m.2.data)
theorem srtM_map (M : List Mb) : (srtM M).map (fun m => m.2.data) = srt (M.map fun m => m.2.data) := List.map_mergeSort fun a _ b _ => rfl
def rSortSet (K : Frag) (w : World) : List V → Hp → VK → Prop := fun xs H Q => ∃ (a : Addr) (M : List Mb), xs = [V.ref a] ∧ H a = some (SetNO w a M) ∧ MbOk K H M ∧ sortOk (M.map fun m => m.2.data) = true ∧
  ∀ (M' : List Mb) (p : Addr), M'.Perm M → H p = none → Q (.ref p) (upd H p (.lst ((srtM M').map fun m => V.ref m.1)))
end
section
variable {P : Program} {w : World} {A : Around} {E : Value → Shared → Prop} {s : Shared} {a : Addr} {M : List Mb} {es : Array (Int × Value)} {ep : Nat} {t : SetTable}
theorem mb_order (R : SetN w s.heap a M es ep t) : ∀ vs : List Value, vs.Perm (M.map fun m => Value.ref m.1) → ∃ M' : List Mb, vs = M'.map (fun m => Value.ref m.1) ∧ M'.Perm M := by
  have one : ∀ q ∈ M, ∀ r ∈ M, q.1 = r.1 → q = r := fun q hq r hr e => by
    have z1 := R.mem q hq
    have z2 := R.mem r hr
    rw [e] at z1
    exact Prod.ext e (NestedIs.inj _ _ _ z1.1 z2.1)
  have nM : M.Nodup := nodup_of_map R.once
  intro vs pm
  have ord : ∀ us : List Value, (∀ v ∈ us, ∃ m ∈ M, v = Value.ref m.1) → ∃ M' : List Mb, us = M'.map (fun m => Value.ref m.1) ∧ ∀ m ∈ M', m ∈ M := by
    intro us
    induction us with
    | nil => exact fun _ => ⟨[], rfl, fun m hm => (by cases hm)⟩
    | cons v us ih =>
      intro hv
      obtain ⟨m, hm, e⟩ := hv v List.mem_cons_self
      obtain ⟨M', e1, hs⟩ := ih fun u hu => hv u (List.mem_cons_of_mem _ hu)
      refine ⟨m :: M', by rw [List.map_cons, e, e1], fun r hr => ?_⟩
      rcases List.mem_cons.mp hr with z | z
      · rw [z]; exact hm
      · exact hs r z
  obtain ⟨M', rfl, hs⟩ := ord vs fun v hv => by
    obtain ⟨m, hm, e⟩ := List.mem_map.mp (pm.mem_iff.mp hv)
    exact ⟨m, hm, e.symm⟩
  refine ⟨M', rfl, ?_⟩
  have nr : (M.map fun m => Value.ref m.1).Nodup := List.pairwise_map.mpr (List.Pairwise.imp_of_mem (fun {q r} hq hr hne e => hne (one q hq r hr (by injection e))) nM)
  have n' : M'.Nodup := nodup_of_map (pm.nodup_iff.mpr nr)
  refine (List.perm_ext_iff_of_nodup n' nM).mpr fun m => ⟨hs m, fun hm => ?_⟩
  obtain ⟨r, hr, e⟩ := List.mem_map.mp (pm.mem_iff.mpr (List.mem_map.mpr ⟨m, hm, rfl⟩))
  rw [← one r (hs r hr) m hm (by injection e)]
  exact hr
theorem each_mb : ∀ {vs : List Value} {M : List Mb}, EachIs (fun v (m : Mb) => v = Value.ref m.1) vs M → vs = M.map fun m => Value.ref m.1
  | _, _, .nil => rfl
  | _, _, .cons h t => by rw [h, each_mb t]; rfl
theorem mb_each : ∀ (M : List Mb), EachIs (fun v (m : Mb) => v = Value.ref m.1) (M.map fun m => Value.ref m.1) M
  | [] => .nil
  | m :: M => .cons rfl (mb_each M)
mutual
theorem nk_addrs {h : Heap} : ∀ (k : Nk) (v : Value) (as : List Addr), Reads h v k.data as → as = []
  | .none, v, as, r => by rw [NestedKey.data] at r; cases r; rfl
  | .num _, v, as, r => by rw [NestedKey.data] at r; cases r; rfl
  | .text _, v, as, r => by rw [NestedKey.data] at r; cases r; rfl
  | .tup ks, v, as, r => by
    rw [NestedKey.data] at r
    cases r with
    | tuple a b c d => exact nks_addrs ks _ _ d
theorem nks_addrs {h : Heap} : ∀ (ks : List Nk) (vs : List Value) (as : List Addr), ReadsAll h vs (NestedKey.datas ks) as → as = []
  | [], vs, as, r => by rw [NestedKey.datas] at r; cases r; rfl
  | k :: ks, vs, as, r => by
    rw [NestedKey.datas] at r
    cases r with
    | cons a b => rw [nk_addrs k _ _ a, nks_addrs ks _ _ b]; rfl
end
/-- sorted(a set) -/
theorem sorted_of_set {Q : Value → Shared → Prop} (R : SetN w s.heap a M es ep t) (rd : ∀ m ∈ M, ∃ as, Reads s.heap (.ref m.1) m.2.data as) (hh : A.handled = none) (hok : sortOk (M.map fun m => m.2.data) = true) (hu : A.units + 64 < cLine)
    (fin : ∀ s' p (M' : List Mb) (c : Nat), (∀ b o, s.heap.get? b = some o → s'.heap.get? b = some o) → s'.gens = s.gens → s'.os = s.os → s.heap.objs.size ≤ p → M'.Perm M →
      s'.heap.get? p = some (seqObj "list" ((srtM M').map fun m => Value.ref m.1).toArray c) → Q (.ref p) s') :
    wpAny (model P w) A (call (.builtin "sorted") [.ref a]) Q E s := by
  obtain ⟨o, ho, hex, hd⟩ := R.obj
  have hz := R.size
  have few := R.few
  obtain ⟨k1, k2, k3, k4⟩ := sortOk_parts hok
  refine Calls.call_function_entry kind_sorted plain_sorted entry_sorted (args_sorted1 _) ?_
  unfold Builtin.«sorted»
  refine wpAny_bind (m := checkCount "sorted" 1 1 _) (wpAny_pure ?_)
  refine wpAny_bind (collect_set (A := A.in1) hh ⟨o, ho, hex.1, hd⟩ R.fits (by unfold scanBound; omega) R.table.ris R.led fun s1 vs kp hle g1 o1 pm => ?_)
  have e2 : es.toList.map (·.2) = M.map fun m => Value.ref m.1 := by
    rw [R.list, List.map_map]
    rfl
  rw [e2] at pm
  obtain ⟨M', rfl, pm'⟩ := mb_order R vs pm
  refine wpAny_bind (wpAny_newList ?_ (by rw [List.length_map, pm'.length_eq, sizeLine_eq]; omega))
  have al : AllAlike (M'.map fun m => m.2.data) := fun d hd d' hd' => k1 d ((pm'.map _).mem_iff.mp hd) d' ((pm'.map _).mem_iff.mp hd')
  have so : Sortable (M'.map fun m => m.2.data) := by
    rcases k2 with k2 | k2
    · exact .inl fun d hd => k2 d ((pm'.map _).mem_iff.mp hd)
    · exact .inr fun d hd => k2 d ((pm'.map _).mem_iff.mp hd)
  have hoL : (s1.heap.push (seqObj "list" (M'.map fun m => Value.ref m.1).toArray 0)).get? s1.heap.objs.size = some (seqObj "list" (M'.map fun m => Value.ref m.1).toArray 0) := Heap.get?_push_size _ rfl
  have rd' : ∀ m ∈ M', ∃ as, Reads (s1.heap.push (seqObj "list" (M'.map fun m => Value.ref m.1).toArray 0)) (.ref m.1) m.2.data as ∧ s1.heap.objs.size ∉ as := fun m hm => by
    obtain ⟨as, r⟩ := rd m (pm'.mem_iff.mp hm)
    have e0 := nk_addrs m.2 _ as r
    subst e0
    exact ⟨[], PyProof.Rows.Reads.keeps (fun b u q => Heap.get?_push_of_some _ (kp b u q)) r, by simp⟩
  refine wpAny_bind (wpAny_holding (W.list_sort_data (s := { s1 with heap := s1.heap.push (seqObj "list" (M'.map fun m => Value.ref m.1).toArray 0) }) (enc := fun m : Mb => m.2.data) (bs := M') (R := fun v (m : Mb) => v = Value.ref m.1) hoL (mb_each M') ?_ al so (by rw [pm'.length_eq, sizeLine_eq]; omega) (fun m hm => ?_) fun out ho' eo => ?_))
  · exact (W.each_mem (mb_each M')).mono fun v m ⟨e, hm⟩ => by rw [e]; exact rd' m hm
  · have := k3 m.2.data ((pm'.map _).mem_iff.mp (List.mem_map.mpr ⟨m, hm, rfl⟩))
    simp only [Around.in1_units]
    omega
  · have eo' := each_mb (M := srtM M') eo
    subst eo'
    obtain ⟨c, hc⟩ := sortedHeap_at (vs := M'.map fun m => Value.ref m.1) (out := ((srtM M').map fun m => Value.ref m.1).toArray) hoL
    refine wpAny_pure ⟨_, rfl, fin _ s1.heap.objs.size M' c (fun b u q => ?_) g1 o1 hle pm' hc⟩
    have lt := Heap.lt_size (kp b u q)
    show (sortedHeap _ s1.heap.objs.size _ _).get? b = some u
    rw [sortedHeap_old (Nat.ne_of_lt lt) (by rw [size_push']; exact Nat.lt_succ_of_lt lt)]
    exact Heap.get?_push_of_some _ (kp b u q)
end
section
variable {X : Cx}
theorem cr_sortSet (hc : X.calm = true) (hu : X.A.units + 64 < cLine) : CallR X (.builtin "sorted") (rSortSet (X.fg tq) X.w) := by
  intro pins s σ H vs us Q I r h
  obtain ⟨a, M, rfl, ha, hk, hok, q⟩ := h
  have R0 : SetN0 X.w s.heap a M := (I.hok a _ ha).1
  obtain ⟨es, ep, t, R⟩ := R0.more (mb_key I hk)
  rw [Vals.ref1 r]
  refine sorted_of_set R (fun m hm => rdp (u := .ref m.1) I (hk m hm).1 (noDc_nk _) rfl) (I.ok.hd hc) hok hu fun s' p M' c kp g o hp pm hg => ?_
  have few := R.few
  have len : ((srtM M').map fun m => V.ref m.1).length ≤ sizeLine := by
    rw [List.length_map]
    unfold srtM
    rw [List.length_mergeSort, pm.length_eq, sizeLine_eq]
    omega
  have hn : H p = none := I.hok.fresh hp
  have J : Inv X pins σ (upd H p (.lst ((srtM M').map fun m => V.ref m.1))) { s with heap := s'.heap, gens := s'.gens, drawn := s'.drawn, toks := s'.toks } :=
    I.call (ch := []) (Un.laid kp hp hn) (I.hok.laid kp hp ⟨len, _, c, mb_vals (srtM M'), hg⟩) (by rw [g]; exact I.bare) (fun _ z => nomatch z)
  have e : s' = { s with heap := s'.heap, gens := s'.gens, drawn := s'.drawn, toks := s'.toks } := by
    cases s'
    cases s
    cases o
    rfl
  rw [e]
  exact ⟨.ref p, _, J, rfl, q M' p pm hn⟩
/-- the keys of tuples, each -/
def tupKeys : List D → Option (List Nk)
  | [] => some []
  | .tuple ds :: r => (nkOf (.tuple ds)).bind fun k => if k.depth ≤ 8 then (tupKeys r).map (k :: ·) else none
  | _ :: _ => none
theorem tupKeys_mb {K : Frag} {H : Hp} : ∀ {ds : List D} {vs : List V} {ks : List Nk}, DpAll K H vs ds → tupKeys ds = some ks → ∃ M : List Mb, vs = M.map (fun m => V.ref m.1) ∧ keysOf M = ks ∧ MbOk K H M
  | [], _, _, .nil, h => by
    cases h
    exact ⟨[], rfl, rfl, fun m hm => (by cases hm)⟩
  | d :: ds, _, ks, .cons h1 h2, h => by
    unfold tupKeys at h
    split at h
    · rename_i z
      cases z
    · rename_i z
      cases z
      rw [Option.bind_eq_some_iff] at h
      obtain ⟨k, e1, h⟩ := h
      split at h
      · rename_i hd
        rw [Option.map_eq_some_iff] at h
        obtain ⟨ks', e2, rfl⟩ := h
        obtain ⟨M, q1, q2, q3⟩ := tupKeys_mb h2 e2
        have e3 := nk_data _ _ e1
        obtain ⟨b, xs, rfl, t1, t2⟩ := dp_tup h1
        refine ⟨(b, k) :: M, by rw [q1]; rfl, by rw [← q2]; rfl, fun m hm => ?_⟩
        rcases List.mem_cons.mp hm with e | hm
        · rw [e]
          refine ⟨?_, hd⟩
          show Dp K H (.ref b) k.data
          rw [e3]
          exact h1
        · exact q3 m hm
      · cases h
    · cases h
theorem tupKeys_data : ∀ {ds : List D} {ks : List Nk}, tupKeys ds = some ks → ks.map NestedKey.data = ds
  | [], _, h => by
    cases h
    rfl
  | d :: ds, ks, h => by
    unfold tupKeys at h
    split at h
    · rename_i z
      cases z
    · rename_i z
      cases z
      rw [Option.bind_eq_some_iff] at h
      obtain ⟨k, e1, h⟩ := h
      split at h
      · rw [Option.map_eq_some_iff] at h
        obtain ⟨ks', e2, rfl⟩ := h
        rw [List.map_cons, nk_data _ _ e1, tupKeys_data e2]
      · cases h
    · cases h
def dataOf (ks : List Nk) : List D := (uniq ks).map NestedKey.data
/-- sorted(set(x)) -/
def fSortSet (d : D) : Option (List D) := (seqOf d).bind fun ds => (tupKeys ds).bind fun ks => if (decide (ds.length < 64) && sortOk (dataOf ks)) = true then some (srt (dataOf ks)) else none
def mSortSet (a : ME) : ML := fun e => (a e).bind fun r => (fSortSet r.1).map fun ds => (ds, r.2)
theorem mb_seen {G : Addr → Prop} {σ : SS} {e : Sg} {H : Hp} {M : List Mb} {K : Frag} (h : MbOk K (vis G σ e H) M) : MbOk K H M := fun m hm => ⟨dp_mono same_cut (h m hm).1, (h m hm).2⟩
variable {a : Expr} {ma : ME} {pos pos2 p p2 : Pos}
theorem boot_set' : bootBuiltins "set" = some (.type "set") := by decide +kernel
theorem pm_keys {M : List Mb} {ks : List Mb} (h1 : ∀ m ∈ M, m ∈ ks) (h2 : ∀ m ∈ ks, m.2 ∈ keysOf M) (h3 : (keysOf M).Nodup) : (keysOf M).Perm (uniq (keysOf ks)) := by
  refine perm_uniq h3 fun k => ⟨fun h => ?_, fun h => ?_⟩
  · obtain ⟨m, hm, e⟩ := List.mem_map.mp h
    exact List.mem_map.mpr ⟨m, h1 m hm, e⟩
  · obtain ⟨m, hm, e⟩ := List.mem_map.mp h
    rw [← e]
    exact h2 m hm
theorem sortOk_perm {l m : List D} (p : l.Perm m) (h : sortOk l = true) : sortOk m = true := by
  obtain ⟨h1, h2, h3, h4⟩ := sortOk_parts h
  have dep : ∀ {ds : List D}, (∀ d ∈ ds, d.depth ≤ 8) → PyData.depthAll ds ≤ 8 := by
    intro ds
    induction ds with
    | nil => intro _; simp [PyData.depthAll]
    | cons x r ih =>
      intro hh
      rw [PyData.depthAll]
      have z1 := hh x List.mem_cons_self
      have z2 := ih fun d hd => hh d (List.mem_cons_of_mem _ hd)
      omega
  have so : sortable m = true := by
    simp only [sortOk, Bool.and_eq_true] at h
    have hs := h.1.1.2
    simp only [sortable, Bool.or_eq_true, List.all_eq_true] at hs ⊢
    exact hs.imp (fun q d hd => q d (p.mem_iff.mpr hd)) (fun q d hd => q d (p.mem_iff.mpr hd))
  simp only [sortOk, Bool.and_eq_true]
  exact ⟨⟨⟨allAlike_iff.mpr fun d hd d' hd' => h1 d (p.mem_iff.mpr hd) d' (p.mem_iff.mpr hd'), so⟩, decide_eq_true (dep fun d hd => h3 d (p.mem_iff.mpr hd))⟩, decide_eq_true (by rw [← p.length_eq]; exact h4)⟩
theorem jn_sortSet (hc : X.calm = true) (hu : X.A.units + 64 < cLine) (hg : Gl X "sorted") (hm : X.mg "sorted" = none) (hg2 : Gl X "set") (hm2 : X.mg "set" = none) (ha : PE X a (tOf (X.fg tq) ma)) (he : starEach [a] X.env = (false, eval a X.env) :: starEach [] X.env := by rfl)
    (hpl : (backTo pos2 (starEach [] X.env)).any (·.1) = false := by rfl)
    (he2 : starEach [.Call (.Name "set" p2) [a] [] pos2] X.env = (false, eval (.Call (.Name "set" p2) [a] [] pos2) X.env) :: starEach [] X.env := by rfl) (hpl2 : (backTo pos (starEach [] X.env)).any (·.1) = false := by rfl) :
    PE X (.Call (.Name "sorted" p) [.Call (.Name "set" p2) [a] [] pos2] [] pos) (tNOf (X.fg tq) (mSortSet ma)) := by
  refine PE.imp (pe_callB (cr_sortSet (tq := tq) hc hu) hg hm boot_sorted' (pa_cons (pe_callTy (cr_set (tq := tq) hc hu) hg2 hm2 boot_set' (pa_cons ha pa_nil he) (by decide) (by decide) he hpl) pa_nil he2) (by decide) (by decide) he2 hpl2) ?_
  rintro σ H Q ⟨G, e, d, e', rel, hm, k⟩
  obtain ⟨⟨d1, e1⟩, h1, hm⟩ := Option.bind_eq_some_iff.mp hm
  rw [Option.map_eq_some_iff] at hm
  obtain ⟨out, hf, hm⟩ := hm
  obtain ⟨rfl, rfl⟩ := Prod.mk.inj hm
  unfold fSortSet at hf
  obtain ⟨ds, hs, hf⟩ := Option.bind_eq_some_iff.mp hf
  obtain ⟨ks, ht, hf⟩ := Option.bind_eq_some_iff.mp hf
  split at hf
  · rename_i hcond
    cases hf
    rw [Bool.and_eq_true, decide_eq_true_eq] at hcond
    obtain ⟨few, hok⟩ := hcond
    refine ⟨G, e, _, _, rel, h1, fun v H1 s1 r1 dp => ?_⟩
    have parts : ∃ (l : Addr) (xs : List V), v = .ref l ∧ (SqL (X.fg tq) (vis G σ e1 H1) l xs ∨ SqT (X.fg tq) (vis G σ e1 H1) l xs) ∧ DpAll (X.fg tq) (vis G σ e1 H1) xs ds := by
      simp only at hs
      unfold seqOf at hs
      split at hs
      · cases hs
        obtain ⟨l, xs, rfl, q1, t1⟩ := dp_list dp
        exact ⟨l, xs, rfl, .inl q1, t1⟩
      · cases hs
        obtain ⟨l, xs, rfl, q1, t1⟩ := dp_tup dp
        exact ⟨l, xs, rfl, .inr q1, t1⟩
      · cases hs
    obtain ⟨l, xs, rfl, q1, t1⟩ := parts
    obtain ⟨M0, rfl, kM, mM⟩ := tupKeys_mb t1 ht
    have lenM : M0.length < 64 := by
      have := dpa_len t1
      rw [List.length_map] at this
      omega
    refine ⟨l, M0, rfl, q1.imp (fun q => same_cut.seq q) (fun q => same_tup same_cut q), mb_seen mM, lenM, fun b M hb c1 c2 c3 => ?_⟩
    have pmk := pm_keys c1 c2 c3
    rw [kM] at pmk
    have pmd : (M.map fun m => m.2.data).Perm (dataOf ks) := by
      have := pmk.map NestedKey.data
      unfold keysOf at this
      rw [List.map_map] at this
      exact this
    have mM1 : MbOk (X.fg tq) (vis G σ e1 H1) M := fun m hm => mM m (c1 m hm)
    have r2 := r1.foreign (o := SetNO X.w b M) hb
    have sm2 : Same (vis G σ e1 H1) (vis (fun a => G a ∨ a = b) σ e1 (upd H1 b (SetNO X.w b M))) := vis_foreign hb
    refine ⟨b, M, rfl, upd_same, fun m hm => ⟨dp_mono (sm2.trans same_cut) (mM1 m hm).1, (mM1 m hm).2⟩, sortOk_perm pmd.symm hok, fun M' p pm hp => ?_⟩
    have hpb : p ≠ b := fun z => by rw [z, upd_same] at hp; cases hp
    have hp1 : H1 p = none := by rw [upd_ne hpb] at hp; exact hp
    have eout : (srtM M').map (fun m => m.2.data) = srt (dataOf ks) := by
      rw [srtM_map]
      exact srt_of_perm ((pm.map _).trans pmd) fun d hd d' hd' => (sortOk_parts hok).1 d (((pm.map _).trans pmd).mem_iff.mp hd) d' (((pm.map _).trans pmd).mem_iff.mp hd')
    have st1 : Same H1 (upd H1 b (SetNO X.w b M)) := same_new hb
    have st2 : Same (upd H1 b (SetNO X.w b M)) (upd (upd H1 b (SetNO X.w b M)) p (.lst ((srtM M').map fun m => V.ref m.1))) := same_new hp
    have dps : DpAll (X.fg tq) (vis G σ e1 H1) ((srtM M').map fun m => V.ref m.1) ((srtM M').map fun m => m.2.data) := by
      have all : ∀ m ∈ srtM M', Dp (X.fg tq) (vis G σ e1 H1) (.ref m.1) m.2.data := fun m hm => (mM1 m (pm.mem_iff.mp ((List.mergeSort_perm _ _).mem_iff.mp hm))).1
      generalize srtM M' = Z at all
      induction Z with
      | nil => exact .nil
      | cons m Z ih => exact .cons (all m List.mem_cons_self) (ih fun q hq => all q (List.mem_cons_of_mem _ hq))
    rw [eout] at dps
    have r3 : Rel (X.fg tq) G σ (upd H1 b (SetNO X.w b M)) e1 := r2.tame
    have sm3 : Same (vis G σ e1 H1) (vis G σ e1 (upd H1 b (SetNO X.w b M))) := fun c o h => by
      obtain ⟨z1, z2⟩ := cut_mp h
      exact cut_of z1 (st1 c o z2)
    exact k p _ _ (s1.trans (.grow (st1.trans st2))) (r3.foreign hp) (s1.there p hp1) upd_same (dpa_mono (sm3.trans (vis_foreign hp)) dps)
  · cases hf
end
end PB

set_option maxHeartbeats 4000000
namespace PB
open PySem PySem.Spec PyProof.Rows L2
open PySem.W (alike alikeAll dataLt dataLe keyToks keyToksAll AllAlike Sortable EachIs)
section
variable {X : Cx}
/-! ### in, not in -/
def isIn (d : D) (ds : List D) : Bool := ds.any fun z => PyData.eqv z d
def dIn (a b : D) : Option D := if (SeqAt.shaped a && SeqAt.shaped b) = true then (seqOf b).map fun ds => .bool (isIn a ds) else none
def dNotIn (a b : D) : Option D := if (SeqAt.shaped a && SeqAt.shaped b) = true then (seqOf b).map fun ds => .bool (!isIn a ds) else none
def rInA (K : Frag) (neg : Bool) : R2 := fun x y H Q => ∃ d c ds, Dp K H x d ∧ Dp K H y c ∧ seqOf c = some ds ∧ SeqAt.shaped d = true ∧ SeqAt.shaped c = true ∧ Q (.bl (isIn d ds != neg)) H
theorem op_inA (hu : X.A.units + 65 < cLine) : OpR X (compareOp .In) (rInA (X.fg tq) false) := by
  intro pins s σ H x y v u Q I rx ry h
  obtain ⟨d, c, ds, hd, he, hs, sd, se, q⟩ := h
  obtain ⟨as, r1⟩ := rdp I hd (noDc_shaped sd) rx
  obtain ⟨bs, r2⟩ := rdp I he (noDc_shaped se) ry
  have q' : Q (.bl (isIn d ds)) H := by simpa using q
  unfold seqOf at hs
  split at hs
  · cases hs
    exact SeqAt.in_list_reads r2 r1 (SeqAt.canLay_of_shaped se) (SeqAt.canLay_of_shaped sd) (room_in_shaped sd hu) ⟨.bl _, H, I, rfl, q'⟩
  · cases hs
    exact SeqAt.in_tuple_reads r2 r1 (SeqAt.canLay_of_shaped se) (SeqAt.canLay_of_shaped sd) (room_in_shaped sd hu) ⟨.bl _, H, I, rfl, q'⟩
  · cases hs
theorem op_notInA (hu : X.A.units + 65 < cLine) : OpR X (compareOp .NotIn) (rInA (X.fg tq) true) := by
  intro pins s σ H x y v u Q I rx ry h
  obtain ⟨d, c, ds, hd, he, hs, sd, se, q⟩ := h
  obtain ⟨as, r1⟩ := rdp I hd (noDc_shaped sd) rx
  obtain ⟨bs, r2⟩ := rdp I he (noDc_shaped se) ry
  have q' : Q (.bl (!isIn d ds)) H := by simpa using q
  unfold seqOf at hs
  split at hs
  · cases hs
    exact SeqAt.notIn_list_reads r2 r1 (SeqAt.canLay_of_shaped se) (SeqAt.canLay_of_shaped sd) (room_in_shaped sd hu) ⟨.bl _, H, I, rfl, q'⟩
  · cases hs
    exact SeqAt.notIn_tuple_reads r2 r1 (SeqAt.canLay_of_shaped se) (SeqAt.canLay_of_shaped sd) (room_in_shaped sd hu) ⟨.bl _, H, I, rfl, q'⟩
  · cases hs
theorem od_in (hu : X.A.units + 65 < cLine) : OpD X tq (compareOp .In) dIn := by
  refine ⟨_, op_inA (tq := tq) hu, fun F H x y a b c Q hF ha hb hf k => ?_⟩
  unfold dIn at hf
  split at hf
  · rename_i hs
    rw [Bool.and_eq_true] at hs
    rw [Option.map_eq_some_iff] at hf
    obtain ⟨ds, h1, rfl⟩ := hf
    exact ⟨a, b, ds, dp_mono same_cut ha, dp_mono same_cut hb, h1, hs.1, hs.2, k _ _ (.refl _) (by simpa using Dp.bl _)⟩
  · cases hf
theorem od_notin (hu : X.A.units + 65 < cLine) : OpD X tq (compareOp .NotIn) dNotIn := by
  refine ⟨_, op_notInA (tq := tq) hu, fun F H x y a b c Q hF ha hb hf k => ?_⟩
  unfold dNotIn at hf
  split at hf
  · rename_i hs
    rw [Bool.and_eq_true] at hs
    rw [Option.map_eq_some_iff] at hf
    obtain ⟨ds, h1, rfl⟩ := hf
    exact ⟨a, b, ds, dp_mono same_cut ha, dp_mono same_cut hb, h1, hs.1, hs.2, k _ _ (.refl _) (by simpa using Dp.bl _)⟩
  · cases hf
/-! ### < of tuples -/
def rLtT (K : Frag) : R2 := fun x y H Q => ∃ a b, Dp K H x (.tuple a) ∧ Dp K H y (.tuple b) ∧ noDc (.tuple a) = true ∧ noDc (.tuple b) = true ∧ alike (.tuple a) (.tuple b) = true ∧ (PyData.tuple a).depth ≤ 8 ∧ Q (.bl (dataLt (.tuple a) (.tuple b))) H
theorem op_ltT (hu : X.A.units + 64 < cLine) : OpR X (compareOp .Lt) (rLtT (X.fg tq)) := by
  intro pins s σ H x y v u Q I rx ry h
  obtain ⟨a, b, ha, hb, na, nb, al, dp, q⟩ := h
  obtain ⟨as, r1⟩ := rdp I ha na rx
  obtain ⟨bs, r2⟩ := rdp I hb nb ry
  exact W.rcLt_alike _ _ _ _ _ _ _ _ r1 r2 al (fun z => nomatch z) (by omega) _ _ _ _ ⟨.bl _, H, I, rfl, q⟩
def dLtT : D → D → Option D
  | .tuple a, .tuple b => if (alike (.tuple a) (.tuple b) && (noDc (.tuple a) && noDc (.tuple b)) && decide ((PyData.tuple a).depth ≤ 8)) = true then some (.bool (dataLt (.tuple a) (.tuple b))) else none
  | _, _ => none
def dLtA : D → D → Option D
  | .tuple a, .tuple b => if (alike (.tuple a) (.tuple b) && (noDc (.tuple a) && noDc (.tuple b)) && decide ((PyData.tuple a).depth ≤ 8)) = true then some (.bool (dataLt (.tuple a) (.tuple b))) else none
  | a, b => dLt a b
theorem od_ltA (hu : X.A.units + 64 < cLine) : OpD X tq (compareOp .Lt) dLtA := by
  have t : OpD X tq (compareOp .Lt) dLtT := by
    refine ⟨_, op_ltT (tq := tq) hu, fun F H x y a b c Q hF ha hb hf k => ?_⟩
    unfold dLtT at hf
    split at hf
    · split at hf
      · rename_i hs
        rw [Bool.and_eq_true, Bool.and_eq_true, Bool.and_eq_true, decide_eq_true_eq] at hs
        cases hf
        exact ⟨_, _, dp_mono same_cut ha, dp_mono same_cut hb, hs.1.2.1, hs.1.2.2, hs.1.1, hs.2, k _ _ (.refl _) (.bl _)⟩
      · cases hf
    · cases hf
  refine OpD.to (od_lt.or t) fun a b c h => ?_
  cases a <;> cases b <;> simp_all [dLtA, dLtT, dLt, dCmp]
/-! ### a list unpacked -/
def bUnl (n : Nat) (bs : MGs) : MG := fun d e => match d with
  | .list ds => if ds.length = n then bs ds e else none
  | _ => none
theorem jg_unl {es : List Expr} {kk : Nat} {pos : Pos} {js : List Nat} {bs : MGs} {n : Nat} (hc : X.calm = true) (h : PGs X es (tGsOf (X.fg tq) js bs)) (hn : (assignEach es X.env).length = n := by rfl) (hst : (assignEach es X.env).findIdx? (·.1) = none := by rfl) :
    PG X (.Tuple es kk pos) (tGOf (X.fg tq) false js (bUnl n bs)) := by
  refine PG.imp (pg_unl hc h hn hst) ?_
  rintro v σ H R ⟨G, e, d, e', rel, dp, hm, k⟩
  unfold bUnl at hm
  split at hm
  · split at hm
    · rename_i hl
      obtain ⟨a, xs, rfl, q1, t1⟩ := dp_list dp.hold
      exact ⟨a, xs, rfl, same_cut.seq q1, by rw [dpa_len t1]; exact hl, G, e, _, e', rel, t1, hm, k⟩
    · cases hm
  · cases hm
/-! ### a, b = c, d -/
def sPar (i j : Nat) (ms : ML) : MS := fun e => (ms e).bind fun r => match r.1 with
  | [v, w] => (bName i v r.2).bind fun e1 => (bName j w e1).map fun e2 => (.next, e2)
  | _ => none
theorem bName_at {K : Frag} {G : Addr → Prop} {σ : SS} {H : Hp} {e e' : Sg} {i : Nat} {d : D} {v : V} (r : Rel K G σ H e) (hb : bName i d e = some e') (hv : Dp K (vis G σ e H) v d) : Step σ e H (σ.set i (some v)) e' H ∧ Rel K G (σ.set i (some v)) H e' := by
  unfold bName at hb
  split at hb
  · rename_i hc
    cases hb
    simp only [Bool.and_eq_true, decide_eq_true_eq, Bool.not_eq_true'] at hc
    exact put_val r hc.1 hc.2 hv
  · cases hb
theorem js_par {i j : Nat} {x y : Str} {a b : Expr} {ms : ML} {px py pt pos : Pos} {kt k2 pt2} (hc : X.calm = true) (hN : X.N.Nodup) (hi : X.N[i]? = some x) (hj : X.N[j]? = some y) (hij : i ≠ j)
    (hx : X.env.scope.names.lookup x = some .local) (hy : X.env.scope.names.lookup y = some .local) (ha : PA X [a, b] (tAOf (X.fg tq) ms))
    (hw : swappedStores [.Tuple [.Name x px, .Name y py] kt pt] (.Tuple [a, b] k2 pt2) X.env = pure (some [x, y]))
    (hs : swapsWithSole [.Tuple [.Name x px, .Name y py] kt pt] (.Tuple [a, b] k2 pt2) pos.line X.env = pure false := by rfl) :
    PS X (.Assign [.Tuple [.Name x px, .Name y py] kt pt] (.Tuple [a, b] k2 pt2) pos) (tSOf (X.fg tq) (sPar i j ms)) := by
  refine PS.imp (ps_par hc hN hi hj hij hx hy ha hw hs) ?_
  rintro D σ H ⟨G, e, o, e', rel, hm, k⟩
  obtain ⟨⟨ds, e1⟩, h1, hm⟩ := Option.bind_eq_some_iff.mp hm
  simp only at hm
  split at hm
  · obtain ⟨e2, h2, hm⟩ := Option.bind_eq_some_iff.mp hm
    obtain ⟨e3, h3, hm⟩ := Option.map_eq_some_iff.mp hm
    obtain ⟨rfl, rfl⟩ := Prod.mk.inj hm
    refine ⟨G, e, _, e1, rel, h1, fun vs H1 s1 r1 dps => ?_⟩
    cases dps with
    | cons d1 t =>
      cases t with
      | cons d2 t =>
        cases t
        obtain ⟨st2, r2⟩ := bName_at r1 h2 d1
        obtain ⟨st3, r3⟩ := bName_at r2 h3 (dp_mono st2.vis d2)
        exact ⟨_, _, rfl, k _ H1 ((s1.trans st2).trans st3) r3⟩
  · cases hm
end
/-! ### comprehensions of two clauses -/
def lc2Go (bind : MG) (test : MT) (mi1 : ML) (bind1 : MG) (test1 : MT) (elt : ME) (vs vs1 : List Nat) : List D → Sg → Option (List D × Sg)
  | [], e => some ([], e)
  | d :: ds, e => (bind d e).bind fun e1 => (test e1).bind fun t => if t.1 = true then (mi1 t.2).bind fun it => (wipeC it.2 vs1).bind fun e2 => (lcGo bind1 test1 elt vs1 it.1 e2).bind fun y => (wipeC y.2 vs).bind fun e3 => (lc2Go bind test mi1 bind1 test1 elt vs vs1 ds e3).map fun r => (y.1 ++ r.1, r.2)
    else (wipeC t.2 vs).bind fun e2 => lc2Go bind test mi1 bind1 test1 elt vs vs1 ds e2
def mLc2 (mi : ML) (bind : MG) (test : MT) (mi1 : ML) (bind1 : MG) (test1 : MT) (elt : ME) (vs vs1 : List Nat) : ML := fun e => (mi e).bind fun it => (wipeC it.2 vs).bind fun e0 => (lc2Go bind test mi1 bind1 test1 elt vs vs1 it.1 e0).bind fun r => if szOk r.1.length = true then some (r.1, restore it.2 r.2 vs) else none
section
variable {K : Frag} {G : Addr → Prop} {X : Cx}
theorem inner_of {Dl : Addr} {σb σ2 : SS} {Hb H4 : Hp} {eb e2 eF : Sg} {J1 : It} {items : List D} {bind : MG} {test : MT} {elt : ME} {vs1 js1 : List Nat} {acc0 : List V} {da0 ys : List D} {Nx : Hp → Prop}
    (hjs : ∀ j ∈ js1, j ∈ vs1) (hG : G Dl) (hb : Hb Dl = none) (r : Rel K G σ2 H4 e2) (st0 : Step σb eb Hb σ2 e2 H4) (hn : noOwn e2 vs1 = true) (wk : WalkD K fl1 J1 (vis G σ2 e2 H4) items) (hD : H4 Dl = some (.lst acc0))
    (ha : DpAll K (vis G σ2 e2 H4) acc0 da0) (hgo : lcGo bind test elt vs1 items (wipeE e2 vs1) = some (ys, eF)) (hz : da0.length + ys.length ≤ 100000)
    (fin : ∀ H' acc', Step σb eb Hb (wipe σ2 vs1) eF H' → Rel K G (wipe σ2 vs1) H' eF → H' Dl = some (.lst acc') → DpAll K (vis G (wipe σ2 vs1) eF H') acc' (da0 ++ ys) → Nx H') :
    ∃ W1 : Nat → Nat → Hp → Prop, (∃ m, W1 0 m H4) ∧ ∀ j k H, W1 j k H →
      (J1.stop j H ∧ Nx H) ∨ (J1.go j H ∧ ∃ Nx1 : Hp → Prop, (∀ H', Nx1 H' → ∃ k', k' < k ∧ W1 (j + 1) k' H') ∧ ∀ x H', J1.yld j H x H' → tGOf K fl1 js1 bind x (wipe σ2 vs1) H' fun σ3 H5 => wipe σ3 vs1 = wipe σ2 vs1 ∧ tTOf K test σ3 H5 fun b H6 =>
        if b = true then tOf K elt σ3 H6 fun y H7 => ∃ acc, H7 Dl = some (.lst acc) ∧ acc.length < sizeLine ∧ Nx1 (upd H7 Dl (.lst (acc ++ [y]))) else Nx1 H6) := by
  have w2 : wipe (wipe σ2 vs1) vs1 = wipe σ2 vs1 := wipe_ext (wipe_length σ2 vs1) fun j hj => wipe_out hj
  refine ⟨fun j k H' => k = items.length - j ∧ j ≤ items.length ∧ ∃ (ei : Sg) (acc : List V) (da rest : List D), Rel K G (wipe σ2 vs1) H' ei ∧ Step σb eb Hb (wipe σ2 vs1) ei H' ∧ Same (vis G σ2 e2 H4) (vis G (wipe σ2 vs1) ei H') ∧
      H' Dl = some (.lst acc) ∧ DpAll K (vis G (wipe σ2 vs1) ei H') acc da ∧ lcGo bind test elt vs1 (items.drop j) ei = some (rest, eF) ∧ da ++ rest = da0 ++ ys,
    ⟨items.length, by simp, Nat.zero_le _, wipeE e2 vs1, acc0, da0, ys, r.wiped hn, st0.trans (Step.wiped hn), (Step.wiped hn).vis, hD, dpa_mono (Step.wiped hn).vis ha, by simpa using hgo, rfl⟩, ?_⟩
  rintro j k H2 ⟨rfl, hj, ei, acc, da, rest, ri, st, seen, hDl, dacc, hgo', hout⟩
  have hlen : da.length + rest.length = da0.length + ys.length := by
    have := congrArg List.length hout
    simpa using this
  have notOwn : ∀ {σ : SS} {e : Sg} {H : Hp}, Rel K G σ H e → ¬ Own σ e Dl := fun rr w => by
    obtain ⟨i, b, ds', q1, q2⟩ := w
    obtain ⟨p, xs, q3, q4, q5, q6⟩ := rr.own i b ds' q1
    rw [q2] at q3
    cases q3
    exact q6 hG
  by_cases hlt : j < items.length
  · refine .inr ⟨wk.go j H2 (seen.trans same_cut) hlt, ?_⟩
    rw [List.drop_eq_getElem_cons hlt] at hgo'
    unfold lcGo at hgo'
    obtain ⟨e3, hbd, hgo'⟩ := Option.bind_eq_some_iff.mp hgo'
    obtain ⟨⟨t, e4⟩, ht, hgo'⟩ := Option.bind_eq_some_iff.mp hgo'
    refine ⟨fun H' => ∃ k', k' < items.length - j ∧ (k' = items.length - (j + 1) ∧ j + 1 ≤ items.length ∧ ∃ (ei : Sg) (acc : List V) (da rest : List D), Rel K G (wipe σ2 vs1) H' ei ∧ Step σb eb Hb (wipe σ2 vs1) ei H' ∧ Same (vis G σ2 e2 H4) (vis G (wipe σ2 vs1) ei H') ∧
      H' Dl = some (.lst acc) ∧ DpAll K (vis G (wipe σ2 vs1) ei H') acc da ∧ lcGo bind test elt vs1 (items.drop (j + 1)) ei = some (rest, eF) ∧ da ++ rest = da0 ++ ys), fun H' h => h, fun x H3 hy => ?_⟩
    obtain ⟨sm3, dx⟩ := wk.yld j H2 (fun a => G a ∨ Own (wipe σ2 vs1) ei a) x H3 items[j] seen ri.ne0 (List.getElem?_eq_getElem hlt) hy
    refine ⟨G, ei, items[j], e3, ri.grow sm3, dx, hbd, fun σ3 k3 l3 s3 r3 => ?_⟩
    have ws : wipe σ3 vs1 = wipe σ2 vs1 := (wipe_ext l3 fun i hi => k3 i fun w => hi (hjs i w)).trans w2
    refine ⟨ws, G, e3, t, e4, r3, ht, fun H6 s6 r6 => ?_⟩
    have g6 : Step (wipe σ2 vs1) ei H2 σ3 e4 H6 := ((Step.grow (e := ei) sm3).trans s3).trans s6
    have D6 : H6 Dl = some (.lst acc) := g6.keep Dl _ hDl (notOwn ri) rfl
    cases t with
    | true =>
      rw [if_pos rfl] at hgo'
      obtain ⟨⟨y, e5⟩, he, hgo'⟩ := Option.bind_eq_some_iff.mp hgo'
      obtain ⟨e6, hw6, hgo'⟩ := Option.bind_eq_some_iff.mp hgo'
      obtain ⟨⟨rest', eF'⟩, hrest, hgo'⟩ := Option.map_eq_some_iff.mp hgo'
      obtain ⟨rfl, rfl⟩ := Prod.mk.inj hgo'
      obtain ⟨hn6, rfl⟩ := wipeC_some hw6
      refine iteT ⟨G, e4, y, e5, r6, he, fun v H7 s7 r7 dy => ?_⟩
      have g7 : Step (wipe σ2 vs1) ei H2 (wipe σ2 vs1) (wipeE e5 vs1) H7 := by
        have := (g6.trans s7).trans (Step.wiped hn6)
        rwa [ws] at this
      have r8 : Rel K G (wipe σ2 vs1) H7 (wipeE e5 vs1) := by
        have := r7.wiped hn6
        rwa [ws] at this
      have dy' : Dp K (vis G (wipe σ2 vs1) (wipeE e5 vs1) H7) v y := by
        have := dp_mono (Step.wiped (H := H7) (σ := σ3) hn6).vis dy
        rwa [ws] at this
      have D7 : H7 Dl = some (.lst acc) := s7.keep Dl _ D6 (notOwn r6) rfl
      refine ⟨acc, D7, ?_, items.length - (j + 1), by omega, rfl, by omega, wipeE e5 vs1, acc ++ [v], da ++ [y], rest', r8.other hG D7, (st.trans g7).other hb, (seen.trans g7.vis).trans (vis_other hG), upd_same, dpa_mono (vis_other hG) (dpa_app (dpa_mono g7.vis dacc) (.cons dy' .nil)), hrest, ?_⟩
      · rw [dpa_len dacc, sizeLine_eq]
        rw [List.length_cons] at hlen
        omega
      · rw [List.append_assoc]
        exact hout
    | false =>
      rw [if_neg Bool.false_ne_true] at hgo'
      obtain ⟨e6, hw6, hgo'⟩ := Option.bind_eq_some_iff.mp hgo'
      obtain ⟨hn6, rfl⟩ := wipeC_some hw6
      have g7 : Step (wipe σ2 vs1) ei H2 (wipe σ2 vs1) (wipeE e4 vs1) H6 := by
        have := g6.trans (Step.wiped hn6)
        rwa [ws] at this
      have r8 : Rel K G (wipe σ2 vs1) H6 (wipeE e4 vs1) := by
        have := r6.wiped hn6
        rwa [ws] at this
      exact iteF ⟨items.length - (j + 1), by omega, rfl, by omega, wipeE e4 vs1, acc, da, rest, r8, st.trans g7, seen.trans g7.vis, D6, dpa_mono g7.vis dacc, hgo', hout⟩
  · have hj2 : j = items.length := by omega
    refine .inl ⟨wk.stop j H2 (seen.trans same_cut) (by omega), ?_⟩
    rw [hj2, List.drop_length] at hgo'
    cases hgo'
    rw [List.append_nil] at hout
    subst hout
    exact fin H2 acc st ri hDl dacc
theorem lc2_of {mi mi1 : ML} {bind bind1 : MG} {test test1 : MT} {elt : ME} {vs vs1 js js1 : List Nat} (hjs : ∀ j ∈ js, j ∈ vs) (hjs1 : ∀ j ∈ js1, j ∈ vs1) (hvs : ∀ j ∈ vs1, j ∈ vs) :
    ∀ σ H Q, tNOf K (mLc2 mi bind test mi1 bind1 test1 elt vs vs1) σ H Q → tLc2 (tIOf K fl mi) (tGOf K fl js bind) (tTOf K test) (tIOf K fl1 mi1) (tGOf K fl1 js1 bind1) (tTOf K test1) (tOf K elt) vs vs1 σ H Q := by
  rintro σ H Q ⟨G, e, ds, e', rel, hm, k⟩
  obtain ⟨⟨items, e1⟩, h1, hm⟩ := Option.bind_eq_some_iff.mp hm
  obtain ⟨e0, h0, hm⟩ := Option.bind_eq_some_iff.mp hm
  obtain ⟨⟨out, eF⟩, hgo, hm⟩ := Option.bind_eq_some_iff.mp hm
  simp only at hm hgo h0
  split at hm
  · rename_i hz
    have hz : out.length ≤ 100000 := of_decide_eq_true hz
    obtain ⟨rfl, rfl⟩ := Prod.mk.inj (Option.some.inj hm)
    obtain ⟨hn, rfl⟩ := wipeC_some h0
    refine ⟨G, e, items, e1, rel, h1, fun J H1 s1 r1 wk Dl hD => ?_⟩
    refine ⟨fun i m H' => m = items.length - i ∧ i ≤ items.length ∧ ∃ (ei : Sg) (acc : List V) (da rest : List D), Rel K (fun a => G a ∨ a = Dl) (wipe σ vs) H' ei ∧ (∀ i ∈ vs, ∀ s, ei[i]? ≠ some (some s)) ∧
        Step (wipe σ vs) (wipeE e1 vs) H1 (wipe σ vs) ei H' ∧ H' Dl = some (.lst acc) ∧ DpAll K (vis (fun a => G a ∨ a = Dl) (wipe σ vs) ei H') acc da ∧ lc2Go bind test mi1 bind1 test1 elt vs vs1 (items.drop i) ei = some (rest, eF) ∧ da ++ rest = out,
      ⟨items.length, by simp, Nat.zero_le _, wipeE e1 vs, [], [], out, (r1.wiped hn).foreign hD, wiped_none, Step.refl.other hD, upd_same, .nil, by simpa using hgo, rfl⟩, ?_⟩
    rintro i m H2 ⟨rfl, hi, ei, acc, da, rest, ri, hei, st, hDl, dacc, hgo', hout⟩
    obtain ⟨b1, b2, b3⟩ := back hn r1 hD ri hei st
    have seen : Same (vis G σ e1 H1) (vis (fun a => G a ∨ a = Dl) (wipe σ vs) ei H2) := fun a o h => by
      obtain ⟨q1, q2⟩ := cut_mp h
      have hne : a ≠ Dl := ne_of_none q2 hD
      refine cut_of ?_ (st.keep a o q2 (fun w => q1 (.inr (own_wiped w))) (cut_nt h)) (cut_nt h)
      rintro ((w | w) | w)
      · exact q1 (.inl w)
      · exact hne w
      · rcases st.new a w with z | z
        · exact q1 (.inr (own_wiped z))
        · rw [q2] at z; cases z
    by_cases hlt : i < items.length
    · refine .inr ⟨wk.go i H2 (seen.trans same_cut) hlt, ?_⟩
      rw [List.drop_eq_getElem_cons hlt] at hgo'
      unfold lc2Go at hgo'
      obtain ⟨e2, hb, hgo'⟩ := Option.bind_eq_some_iff.mp hgo'
      obtain ⟨⟨t, e3⟩, ht, hgo'⟩ := Option.bind_eq_some_iff.mp hgo'
      refine ⟨fun H' => ∃ m', m' < items.length - i ∧ (m' = items.length - (i + 1) ∧ i + 1 ≤ items.length ∧ ∃ (ei : Sg) (acc : List V) (da rest : List D), Rel K (fun a => G a ∨ a = Dl) (wipe σ vs) H' ei ∧ (∀ i ∈ vs, ∀ s, ei[i]? ≠ some (some s)) ∧
        Step (wipe σ vs) (wipeE e1 vs) H1 (wipe σ vs) ei H' ∧ H' Dl = some (.lst acc) ∧ DpAll K (vis (fun a => G a ∨ a = Dl) (wipe σ vs) ei H') acc da ∧ lc2Go bind test mi1 bind1 test1 elt vs vs1 (items.drop (i + 1)) ei = some (rest, eF) ∧ da ++ rest = out), fun H' h => h, fun x H3 hy => ?_⟩
      obtain ⟨sm3, dx⟩ := wk.yld i H2 (fun a => (G a ∨ a = Dl) ∨ Own (wipe σ vs) ei a) x H3 items[i] seen ri.ne0 (List.getElem?_eq_getElem hlt) hy
      refine ⟨fun a => G a ∨ a = Dl, ei, items[i], e2, ri.grow sm3, dx, hb, fun σ2 k2 l2 s2 r2 => ?_⟩
      have hws : wipe σ2 vs = wipe σ vs := by
        have hh : wipe σ2 vs = wipe (wipe σ vs) vs := wipe_ext l2 fun j hj => k2 j fun w => hj (hjs j w)
        rw [hh]
        exact wipe_ext (wipe_length σ vs) fun j hj => wipe_out hj
      refine ⟨hws, fun a => G a ∨ a = Dl, e2, t, e3, r2, ht, fun H4 s4 r4 => ?_⟩
      have g4 : Step (wipe σ vs) ei H2 σ2 e3 H4 := ((Step.grow (e := ei) sm3).trans s2).trans s4
      have D4 : H4 Dl = some (.lst acc) := g4.keep Dl _ hDl ri.notOwn rfl
      cases t with
      | true =>
        rw [if_pos rfl] at hgo'
        obtain ⟨⟨its, e4⟩, hi1, hgo'⟩ := Option.bind_eq_some_iff.mp hgo'
        obtain ⟨e5, hw5, hgo'⟩ := Option.bind_eq_some_iff.mp hgo'
        obtain ⟨⟨ys, e6⟩, hin, hgo'⟩ := Option.bind_eq_some_iff.mp hgo'
        obtain ⟨e7, hw7, hgo'⟩ := Option.bind_eq_some_iff.mp hgo'
        obtain ⟨⟨rest', eF'⟩, hrest, hgo'⟩ := Option.map_eq_some_iff.mp hgo'
        obtain ⟨rfl, rfl⟩ := Prod.mk.inj hgo'
        obtain ⟨hn5, rfl⟩ := wipeC_some hw5
        obtain ⟨hn7, rfl⟩ := wipeC_some hw7
        refine iteT ⟨fun a => G a ∨ a = Dl, e3, its, e4, r4, hi1, fun J1 H5 s5 r5 wk1 => ?_⟩
        have g5 : Step (wipe σ vs) ei H2 σ2 e4 H5 := g4.trans s5
        have D5 : H5 Dl = some (.lst acc) := s5.keep Dl _ D4 r4.notOwn rfl
        have hlen : da.length + (ys.length + rest'.length) = out.length := by
          have := congrArg List.length hout
          simpa using this
        refine inner_of hjs1 (.inr rfl) hD r5 (st.trans g5) hn5 wk1 D5 (dpa_mono g5.vis dacc) hin (by omega) fun H6 acc' st6 r6 D6 d6 => ?_
        have ww : wipe (wipe σ2 vs1) vs = wipe σ vs := by
          rw [← hws]
          exact wipe_ext (wipe_length σ2 vs1) fun j hj => wipe_out fun w => hj (hvs j w)
        have g7 : Step (wipe σ vs) (wipeE e1 vs) H1 (wipe σ vs) (wipeE e6 vs) H6 := by
          have := st6.trans (Step.wiped hn7)
          rwa [ww] at this
        have r7 : Rel K (fun a => G a ∨ a = Dl) (wipe σ vs) H6 (wipeE e6 vs) := by
          have := r6.wiped hn7
          rwa [ww] at this
        have d7 : DpAll K (vis (fun a => G a ∨ a = Dl) (wipe σ vs) (wipeE e6 vs) H6) acc' (da ++ ys) := by
          have := dpa_mono (Step.wiped (H := H6) (σ := wipe σ2 vs1) hn7).vis d6
          rwa [ww] at this
        exact ⟨items.length - (i + 1), by omega, rfl, by omega, wipeE e6 vs, acc', da ++ ys, rest', r7, wiped_none, g7, D6, d7, hrest, by rw [List.append_assoc]; exact hout⟩
      | false =>
        rw [if_neg Bool.false_ne_true] at hgo'
        obtain ⟨e5, hw5, hgo'⟩ := Option.bind_eq_some_iff.mp hgo'
        obtain ⟨hn5, rfl⟩ := wipeC_some hw5
        have g6 : Step (wipe σ vs) ei H2 (wipe σ2 vs) (wipeE e3 vs) H4 := g4.trans (Step.wiped hn5)
        rw [hws] at g6
        have r6 : Rel K (fun a => G a ∨ a = Dl) (wipe σ vs) H4 (wipeE e3 vs) := by
          have := r4.wiped hn5
          rw [hws] at this
          exact this
        exact iteF ⟨items.length - (i + 1), by omega, rfl, by omega, wipeE e3 vs, acc, da, rest, r6, wiped_none, st.trans g6, D4, dpa_mono g6.vis dacc, hgo', hout⟩
    · have hi2 : i = items.length := by omega
      refine .inl ⟨wk.stop i H2 (seen.trans same_cut) (by omega), ?_⟩
      rw [hi2, List.drop_length] at hgo'
      cases hgo'
      rw [List.append_nil] at hout
      subst hout
      refine k Dl acc H2 (s1.trans b1) b2 (s1.there Dl hD) hDl (dpa_mono ?_ dacc)
      intro a o h
      obtain ⟨q1, q2⟩ := cut_mp h
      refine cut_of ?_ q2
      rintro (w | w)
      · exact q1 (.inl w)
      · exact q1 (.inr ((b3 a).mp w))
  · cases hm
theorem jn_lc2 {elt tg iter tg1 iter1 : Expr} {ifs ifs1 : List Expr} {scope : Scope} {own : List (Str × Nat)} {vs1 : List Nat} {pos : Pos} {mi mi1 : ML} {bind bind1 : MG} {test test1 : MT} {me : ME} {js js1 : List Nat} (hc : X.calm = true) (hN : X.N.Nodup) (hi : PI X tg iter (tIOf (X.fg tq) fl mi)) (ok : BlkOk X.N X.env.scope scope own)
    (hv : ∀ i ∈ vs1, i ∈ own.map (·.2))
    (hg : ∀ (s : Shared) (H : Hp) (C : Addr) (cl : List (Str × Addr)) (fp : List Addr), PG (X.blk s H scope (compEnvC scope cl C X.env) fp) tg (tGOf (X.fg tq) fl js bind)) (ht : ∀ (s : Shared) (H : Hp) (C : Addr) (cl : List (Str × Addr)) (fp : List Addr), PTs (X.blk s H scope (compEnvC scope cl C X.env) fp) ifs (tTOf (X.fg tq) test))
    (hi1 : ∀ (s : Shared) (H : Hp) (C : Addr) (cl : List (Str × Addr)) (fp : List Addr), PI (X.blk s H scope (compEnvC scope cl C X.env) fp) tg1 iter1 (tIOf (X.fg tq) fl1 mi1))
    (hg1 : ∀ (s : Shared) (H : Hp) (C : Addr) (cl : List (Str × Addr)) (fp : List Addr), PG (X.blk s H scope (compEnvC scope cl C X.env) fp) tg1 (tGOf (X.fg tq) fl1 js1 bind1)) (ht1 : ∀ (s : Shared) (H : Hp) (C : Addr) (cl : List (Str × Addr)) (fp : List Addr), PTs (X.blk s H scope (compEnvC scope cl C X.env) fp) ifs1 (tTOf (X.fg tq) test1))
    (he : ∀ (s : Shared) (H : Hp) (C : Addr) (cl : List (Str × Addr)) (fp : List Addr), PE (X.blk s H scope (compEnvC scope cl C X.env) fp) elt (tOf (X.fg tq) me)) (hjs : ∀ j ∈ js, j ∈ own.map (·.2) := by decide) (hjs1 : ∀ j ∈ js1, j ∈ vs1 := by decide)
    (hs : ∀ x, foldedSetIterable iter X.env x = pure x := by intro _; rfl) (hs1 : ∀ env x, foldedSetIterable iter1 env x = pure x := by intro _ _; rfl) :
    PE X (.ListComp elt [⟨tg, iter, ifs, 0⟩, ⟨tg1, iter1, ifs1, 0⟩] scope pos) (tNOf (X.fg tq) (mLc2 mi bind test mi1 bind1 test1 me (own.map (·.2)) vs1)) := PE.imp (pe_lc2 hc hN hi ok hv hg ht hi1 hg1 ht1 he hs hs1) (lc2_of hjs hjs1 hv)
end
end PB
namespace PB
open PySem PySem.Spec PyProof.Rows L2
theorem _root_.L2.Room.u65 {k : Nat} {A : Around} (r : Room k A) : A.units + 65 < cLine := by have := r.un; omega
end PB

set_option maxHeartbeats 4000000
namespace PB
open PySem PySem.Spec PyProof.Rows L2
section
variable {e : Sg} {a b c : ME} {s t u : MT} {m l : ML} {x y : MS} {d : D} {i j : Nat} {P : D → Sg → Prop} {PT : Bool → Sg → Prop} {PL : List D → Sg → Prop} {PS : Out → Sg → Prop}
@[simp] theorem ev_SortSet : mSortSet a e = (a e).bind fun r => (fSortSet r.1).map fun ds => (ds, r.2) := rfl
@[simp] theorem ev_Sort : mSort a e = (a e).bind fun r => match r.1 with
  | .list ds => if sortOk ds = true then some (srt ds, r.2) else none
  | _ => none := rfl
theorem en_SortSet (h : Ens a e fun r e1 => ∃ ds, fSortSet r = some ds ∧ PL ds e1) : Ens (mSortSet a) e PL := by
  obtain ⟨x, e1, h1, z, h3, h4⟩ := h
  exact ⟨z, e1, by simp [h1, h3], h4⟩
theorem en_Sort (h : Ens a e fun r e1 => ∃ ds, r = .list ds ∧ sortOk ds = true ∧ PL (srt ds) e1) : Ens (mSort a) e PL := by
  obtain ⟨x, e1, h1, z, rfl, h3, h4⟩ := h
  exact ⟨srt z, e1, by simp [h1, h3], h4⟩
theorem es_Par (i j : Nat) (h : Ens m e fun r e1 => ∃ v w e2 e3, r = [v, w] ∧ bName i v e1 = some e2 ∧ bName j w e2 = some e3 ∧ PS .next e3) : Ens (sPar i j m) e PS := by
  obtain ⟨r, e1, h1, v, w, e2, e3, rfl, h2, h3, h4⟩ := h
  exact ⟨.next, e3, by unfold sPar; simp [h1, h2, h3], h4⟩
theorem en_OrT (h : Ens s e fun k e1 => if k = true then PT true e1 else Ens t e1 PT) : Ens (mOrT s t) e PT := by
  obtain ⟨k, e1, h1, h2⟩ := h
  cases k with
  | true => exact ⟨true, e1, by simp [h1], h2⟩
  | false =>
    rw [if_neg Bool.false_ne_true] at h2
    obtain ⟨k2, e2, h3, h4⟩ := h2
    exact ⟨k2, e2, by simp [h1, h3], h4⟩
end
end PB

set_option maxHeartbeats 4000000
/-! Own layer, further: sorted(tuple), a list of one's own compared, popped; in a module's dict; while. -/
namespace PB
open PySem PySem.Spec PyProof.Rows L2
open PySem.W (alike alikeAll dataLt dataLe keyToks keyToksAll AllAlike Sortable EachIs)
/-! ### sorted of a tuple -/
mutual
theorem reads_there {h : Heap} : ∀ {v : Value} {d : D} {as : List Addr}, Reads h v d as → ∀ a ∈ as, ∃ o, h.get? a = some o
  | _, _, _, .none => fun _ z => nomatch z
  | _, _, _, .bool _ => fun _ z => nomatch z
  | _, _, _, .int _ _ => fun _ z => nomatch z
  | _, _, _, .str _ _ => fun _ z => nomatch z
  | _, _, _, .list h1 _ _ t => fun a z => by
    rcases List.mem_cons.mp z with rfl | z
    · exact ⟨_, h1⟩
    · exact readsAll_there t a z
  | _, _, _, .tuple _ _ _ t => fun a z => readsAll_there t a z
  | _, _, _, .dict h1 _ _ t u => fun a z => by
    rcases List.mem_append.mp z with z | z
    · rcases List.mem_cons.mp z with rfl | z
      · exact ⟨_, h1⟩
      · exact readsAll_there t a z
    · exact readsAll_there u a z
theorem readsAll_there {h : Heap} : ∀ {v : List Value} {d : List D} {as : List Addr}, ReadsAll h v d as → ∀ a ∈ as, ∃ o, h.get? a = some o
  | _, _, _, .nil => fun _ z => nomatch z
  | _, _, _, .cons r t => fun a z => by
    rcases List.mem_append.mp z with z | z
    · exact reads_there r a z
    · exact readsAll_there t a z
end
section
variable {P : Program} {w : World} {A : Around} {E : Value → Shared → Prop} {s : Shared} {a : Addr}
theorem sorted_of_tup {Q : Value → Shared → Prop} {its : List Value} {ps : List (V × D)} (R : IsTup s.heap a its.toArray) (e : EachIs (fun v (p : V × D) => RelV p.1 v) its ps) (rd : ∀ v p, RelV p.1 v → p ∈ ps → ∃ as, Reads s.heap v p.2 as) (hok : sortOk (ps.map (·.2)) = true) (hu : A.units + 64 < cLine)
    (fin : ∀ s' q (out : List Value) (c : Nat), (∀ b o, s.heap.get? b = some o → s'.heap.get? b = some o) → s'.gens = s.gens → s'.os = s.os → s'.drawn = s.drawn → s.heap.get? q = none → EachIs (fun v (p : V × D) => RelV p.1 v) out (srtP ps) →
      s'.heap.get? q = some (seqObj "list" out.toArray c) → Q (.ref q) s') :
    wpAny (model P w) A (call (.builtin "sorted") [.ref a]) Q E s := by
  obtain ⟨k1, k2, k3, k4⟩ := sortOk_parts hok
  rw [List.length_map] at k4
  have hl := e.length
  obtain ⟨o, ho, hc, n, hd⟩ := R
  refine Calls.call_function_entry kind_sorted plain_sorted entry_sorted (args_sorted1 _) ?_
  unfold Builtin.«sorted»
  refine wpAny_bind (m := checkCount "sorted" 1 1 _) (wpAny_pure ?_)
  have hz : its.length ≤ sizeLine := by rw [sizeLine_eq]; omega
  refine wpAny_bind (wpAny_collect_seq (A := A.in1) a (.inr rfl) ho hc hd (fun h' kp => ?_) (by rw [List.size_toArray]; exact hz))
  refine wpAny_bind (wpAny_newList ?_ (by exact hz))
  have hoL : (h'.push (seqObj "list" its.toArray 0)).get? h'.objs.size = some (seqObj "list" its.toArray 0) := Heap.get?_push_size _ rfl
  have lt' : ∀ b u, s.heap.get? b = some u → b < h'.objs.size := fun b u q => Heap.lt_size (kp b u q)
  have hle : s.heap.get? h'.objs.size = none := by
    cases z : s.heap.get? h'.objs.size with
    | none => rfl
    | some u => exact absurd (lt' _ u z) (Nat.lt_irrefl _)
  refine wpAny_bind (wpAny_holding (W.list_sort_data (s := { s with heap := h'.push (seqObj "list" its.toArray 0) }) (enc := fun p : V × D => p.2) (bs := ps) (R := fun v (p : V × D) => RelV p.1 v) hoL e ?_ k1 k2 (by rw [sizeLine_eq]; omega) (fun p hp => ?_) fun out ho' eo => ?_))
  · refine (W.each_mem e).mono fun v p ⟨r, hp⟩ => ?_
    obtain ⟨as, r1⟩ := rd v p r hp
    exact ⟨as, PyProof.Rows.Reads.keeps (fun b u q => Heap.get?_push_of_some _ (kp b u q)) r1, fun z => by
      obtain ⟨u, hu'⟩ := reads_there r1 _ z
      exact absurd (lt' _ u hu') (Nat.lt_irrefl _)⟩
  · have := k3 p.2 (List.mem_map.mpr ⟨p, hp, rfl⟩)
    simp only [Around.in1_units]
    omega
  · obtain ⟨c, hcc⟩ := sortedHeap_at (vs := its) (out := out.toArray) hoL
    refine wpAny_pure ⟨_, rfl, fin _ h'.objs.size out c (fun b u q => ?_) rfl rfl rfl hle eo hcc⟩
    have lt := lt' b u q
    show (sortedHeap _ h'.objs.size _ _).get? b = some u
    rw [sortedHeap_old (Nat.ne_of_lt lt) (by rw [size_push']; exact Nat.lt_succ_of_lt lt)]
    exact Heap.get?_push_of_some _ (kp b u q)
end
section
variable {X : Cx} {a b : Expr} {ma mb : ME} {pos p : Pos}
theorem okThere {P : Program} {w : World} {H : Hp} {h : Heap} {a : Addr} : ∀ {o : HO}, ObjOk P w H h a o → ∃ u, h.get? a = some u
  | .lst _, ⟨_, _, _, _, e⟩ => ⟨_, e⟩
  | .tup _, ⟨_, _, _, _, e, _⟩ => ⟨_, e⟩
  | .dK _, ⟨_, _, _, _, _, _, _, e, _⟩ => ⟨_, e⟩
  | .dT _, ⟨_, _, _, _, _, _, _, e, _⟩ => ⟨_, e⟩
  | .set _ _, ⟨_, _, _, _, e, _⟩ => ⟨_, e⟩
  | .ins _ _ _, ⟨_, _, _, e, _⟩ => ⟨_, e⟩
  | .own _, ⟨_, e⟩ => ⟨_, e⟩
  | .xd _, ⟨_, ⟨_, _, _, e, _⟩, _⟩ => ⟨_, e⟩
  | .rng _ _, ⟨_, _, _, e⟩ => ⟨_, e⟩
  | .frz _ _, ⟨e, _⟩ => ⟨_, e⟩
  | .tbl _, x => ⟨_, (show h.get? a = some _ from x)⟩
  | .met _ _, x => ⟨_, (show h.get? a = some _ from x)⟩
  | .ext _, ⟨_, ⟨_, e⟩, _⟩ => ⟨_, e⟩
def rSortT (K : Frag) : List V → Hp → VK → Prop := fun xs H Q => ∃ (l : Addr) (ps : List (V × D)), xs = [V.ref l] ∧ SqT K H l (ps.map (·.1)) ∧ (∀ p ∈ ps, Dp K H p.1 p.2) ∧ sortOk (ps.map (·.2)) = true ∧
  ∀ p, H p = none → Q (.ref p) (upd H p (.lst ((srtP ps).map (·.1))))
theorem cr_sortT (hu : X.A.units + 64 < cLine) : CallR X (.builtin "sorted") (rSortT (X.fg tq)) := by
  intro pins s σ H xs us Q I r h
  obtain ⟨l, ps, rfl, hl, hd, hok, q⟩ := h
  rw [Vals.ref1 r]
  obtain ⟨its, rv, pl, hz⟩ := I.tuple hl
  refine sorted_of_tup pl (rel_each rv) (fun v b r1 hb => rdp I (hd b hb) (noDc_alike _ ((sortOk_parts hok).1 _ (List.mem_map.mpr ⟨b, hb, rfl⟩) _ (List.mem_map.mpr ⟨b, hb, rfl⟩))) r1) hok hu fun s' q' out c kp g o dr hq eo hg => ?_
  have hn : H q' = none := by
    cases z : H q' with
    | none => rfl
    | some u =>
      obtain ⟨w, hw⟩ := okThere (I.hok q' u z)
      rw [hq] at hw
      cases hw
  have len : ((srtP ps).map (·.1)).length ≤ sizeLine := by
    rw [List.length_map]
    unfold srtP
    rw [List.length_mergeSort]
    rwa [List.length_map] at hz
  have e : s' = { s with heap := s'.heap, toks := s'.toks } := by
    cases s'
    cases s
    cases o
    cases g
    cases dr
    rfl
  rw [e]
  exact ⟨.ref q', _, I.laidN (t' := s'.toks) (o := .lst ((srtP ps).map (·.1))) kp hq hn ⟨len, out, c, each_rel eo, hg⟩, rfl, q _ hn⟩
def mSortT (a : ME) : ML := fun e => (a e).bind fun r => match r.1 with
  | .tuple ds => if sortOk ds = true then some (srt ds, r.2) else none
  | _ => none
theorem jn_sortedT (hu : X.A.units + 64 < cLine) (hg : Gl X "sorted") (hm : X.mg "sorted" = none) (ha : PE X a (tOf (X.fg tq) ma)) (he : starEach [a] X.env = (false, eval a X.env) :: starEach [] X.env := by rfl) (hpl : (backTo pos (starEach [] X.env)).any (·.1) = false := by rfl) :
    PE X (.Call (.Name "sorted" p) [a] [] pos) (tNOf (X.fg tq) (mSortT ma)) := by
  refine PE.imp (pe_callB (cr_sortT (tq := tq) hu) hg hm boot_sorted' (pa_cons ha pa_nil he) (by decide) (by decide) he hpl) ?_
  rintro σ H Q ⟨G, e, d, e', rel, hm, k⟩
  obtain ⟨⟨d1, e1⟩, h1, hm⟩ := Option.bind_eq_some_iff.mp hm
  simp only at hm
  split at hm
  · split at hm
    · rename_i ds hok
      cases hm
      refine ⟨G, e, _, _, rel, h1, fun v H1 s1 r1 dp => ?_⟩
      obtain ⟨l, xs, rfl, q1, t1⟩ := dp_tup dp
      obtain ⟨ps, rfl, rfl, hd⟩ := dpa_pairs t1
      refine ⟨l, ps, rfl, same_tup same_cut q1, fun p hp => dp_mono same_cut (hd p hp), hok, fun pp hp => ?_⟩
      have hd2 : ∀ q ∈ srtP ps, Dp (X.fg tq) (vis G σ e' H1) q.1 q.2 := fun q hq => hd q ((List.mergeSort_perm _ _).mem_iff.mp hq)
      have dps := pairs_dpa hd2
      rw [srtP_map] at dps
      exact k pp _ _ (s1.trans (.grow (same_new hp))) (r1.foreign hp) (s1.there pp hp) upd_same (dpa_mono (vis_foreign hp) dps)
    · cases hm
  · cases hm
/-! ### a list of one's own, looked at -/
def mNeOwn (i : Nat) (mb : ME) : ME := fun e => match e[i]? with
  | some (some (.own _ _)) => (mb e).bind fun r => match r.2[i]? with
    | some (some (.own _ ds)) => (dNe (.list ds) r.1).map fun z => (z, r.2)
    | _ => none
  | _ => none
theorem neOwn_of {i : Nat} : ∀ σ H Q, tOf (X.fg tq) (mNeOwn i mb) σ H Q → tOp (fun x y H Q => ∃ d c, L2.Dp X.K H x d ∧ L2.Dp X.K H y c ∧ SeqAt.shaped d = true ∧ SeqAt.shaped c = true ∧ Q (.bl (!PyData.eqv d c)) H) (tVar i) (tOf (X.fg tq) mb) σ H Q := by
  rintro σ H Q ⟨G, e, d, e', rel, hm, k⟩
  unfold mNeOwn at hm
  split at hm
  · rename_i b0 ds0 h0
    obtain ⟨⟨d1, e1⟩, h1, hm⟩ := Option.bind_eq_some_iff.mp hm
    simp only at hm
    split at hm
    · rename_i bb ds hj
      obtain ⟨z, hz, hm⟩ := Option.map_eq_some_iff.mp hm
      obtain ⟨rfl, rfl⟩ := Prod.mk.inj hm
      obtain ⟨q, xs0, s1, _⟩ := rel.own i _ _ h0
      refine ⟨.ref q, s1, G, e, _, e1, rel, h1, fun v H1 st r1 dp => ?_⟩
      obtain ⟨q', xs, s2, hx, hd2, _⟩ := r1.own i _ _ hj
      rw [s1] at s2
      cases s2
      unfold dNe at hz
      split at hz
      · rename_i hs
        cases hz
        rw [Bool.and_eq_true] at hs
        exact ⟨.list ds, d1, Dp.weak (Dp.lst (.of hx) (dpa_mono same_cut hd2)) (noDc_shaped hs.1), (dp_mono same_cut dp).weak (noDc_shaped hs.2), hs.1, hs.2, k _ _ st r1 (.bl _)⟩
      · cases hz
    · cases hm
  · cases hm
theorem jt_neOwn (i : Nat) {x : Str} {px : Pos} (hu : X.A.units + 64 < cLine) (hb : PE X b (tOf (X.fg tq) mb)) (hm : behindInMarks .NotEq b = false) (hN : X.N[i]? = some x := by rfl) (hv : Vis X.env.scope x := by first | exact Or.inl rfl | exact Or.inr (Or.inl rfl) | exact Or.inr (Or.inr rfl))
    (hd : (x == ("__debug__" : Str)) = false := by decide) (hcd : (x == ("__classdict__" : Str)) = false := by decide) : PT X (.Compare (.Name x px) [.NotEq] [b] pos) (tTOf (X.fg tq) (mB (mNeOwn i mb))) := by
  refine PT.imp (pt_cmpR (op_neD hu) (pe_var hN hv hd hcd) hb hm) fun σ H Q w => ?_
  exact neOwn_of σ H _ (b_of σ H Q w)
/-- x.pop(e), x a list of one's own -/
def mPop (i : Nat) (me : ME) : ME := fun e => match e[i]? with
  | some (some (.own _ _)) => (me e).bind fun r => match r.1, r.2[i]? with
    | .int j, some (some (.own b ds)) => if (decide (0 ≤ j) && decide (j < 1000000)) = true then (ds[j.toNat]?).map fun z => (z, r.2.set i (some (.own b (ds.eraseIdx j.toNat)))) else none
    | _, _ => none
  | _ => none
theorem dpa_erase {K : Frag} {H : Hp} : ∀ {v : List V} {d : List D} (n : Nat), DpAll K H v d → DpAll K H (v.eraseIdx n) (d.eraseIdx n)
  | _, _, _, .nil => .nil
  | _, _, 0, .cons _ t => t
  | _, _, n + 1, .cons h t => .cons h (dpa_erase n t)
theorem seqIx {j : Int} {n : Nat} (h0 : 0 ≤ j) (h1 : j.toNat < n) : seqIndex? j n = some j.toNat := by
  unfold seqIndex?
  simp only
  have : ¬ j < 0 := by omega
  have h2 : j < (n : Int) := by omega
  simp [this, h0, h2]
theorem je_pop (i : Nat) {x : Str} {p p2 : Pos} (ha : PE X a (tOf (X.fg tq) ma)) (hN : X.N[i]? = some x := by rfl) (hv : Vis X.env.scope x := by first | exact Or.inl rfl | exact Or.inr (Or.inl rfl) | exact Or.inr (Or.inr rfl))
    (hd : (x == ("__debug__" : Str)) = false := by decide) (hcd : (x == ("__classdict__" : Str)) = false := by decide) (hbase : attributeBase (.Name x p2) "pop" X.env (eval (.Name x p2) X.env) = eval (.Name x p2) X.env := by rfl)
    (hfew : ((backTo pos (starEach [a] X.env)).all (fun x => !x.1) && (backToKw pos (keywordEach [] X.env)).all (fun x => x.1.isSome) && decide ([a].length + ([] : List Keyword).length + (if ([] : List Keyword).isEmpty then 0 else 1) < 30)) = true := by rfl)
    (hline : (p.endLine == pos.line) = true := by rfl) (hs : starEach [a] X.env = (false, eval a X.env) :: starEach [] X.env := by rfl) (hplain : (backTo pos (starEach [] X.env)).any (·.1) = false := by rfl) :
    PE X (.Call (.Attribute (.Name x p2) "pop" p) [a] [] pos) (tOf (X.fg tq) (mPop i ma)) := by
  refine PE.imp (pe_bm PySem.F.plainAttrs_list PySem.F.slot_list_pop PySem.F.type_list_pop mt_popAt (pe_var hN hv hd hcd) (pa_cons ha pa_nil hs) hbase hfew hline hs hplain) ?_
  rintro σ H Q ⟨G, e, d, e', rel, hm, k⟩
  unfold mPop at hm
  split at hm
  · rename_i b0 ds0 h0
    obtain ⟨⟨d1, e1⟩, h1, hm⟩ := Option.bind_eq_some_iff.mp hm
    simp only at hm
    split at hm
    · rename_i j b ds hj
      split at hm
      · rename_i hz
        rw [Bool.and_eq_true, decide_eq_true_eq, decide_eq_true_eq] at hz
        obtain ⟨z, hy, hm⟩ := Option.map_eq_some_iff.mp hm
        obtain ⟨rfl, rfl⟩ := Prod.mk.inj hm
        obtain ⟨q, xs0, s1, hx0, _⟩ := rel.own i _ _ h0
        refine ⟨.ref q, s1, .inl ⟨rfl, _, .of hx0⟩, G, e, _, e1, rel, h1, fun v H1 st r1 dp => ?_⟩
        cases dp
        obtain ⟨q', xs, s2, hx, hd2, _⟩ := r1.own i _ _ hj
        rw [s1] at s2
        cases s2
        obtain ⟨y, hy1, hy2⟩ := dpa_get hd2 hy
        have hlt : j.toNat < xs.length := (List.getElem?_eq_some_iff.mp hy1).1
        obtain ⟨st2, r2⟩ := own_write r1 hj s1 (dpa_erase j.toNat hd2)
        exact ⟨q, xs, j, j.toNat, y, rfl, rfl, hx, by omega, by omega, seqIx hz.1 hlt, hy1, k _ _ (st.trans st2) r2 (dp_mono st2.vis hy2)⟩
      · cases hm
    · cases hm
  · cases hm
/-! ### in a dict of the module's own, keys are texts -/
structure GDict (K : PySem.W.Frag) (w : World) (mg : Str → Option Value) (x : Str) (keys : List Str) : Prop where
  ex : ∃ d es n, KDict K w d es n ∧ mg x = some (.ref d) ∧ ∀ z : Str, ∃ r : Option Value, PySem.W.nsIn K d z = some r ∧ r.isSome = keys.contains z
def mInG (keys : List Str) (a : ME) : ME := fun e => (a e).bind fun r => match r.1 with
  | .str z => some (.bool (keys.contains z), r.2)
  | _ => none
theorem je_inG {x : Str} {px : Pos} {keys : List Str} (D : GDict X.K X.w X.mg x keys) (hg : Gl X x) (ha : PE X a (tOf (X.fg tq) ma)) (hm : behindInMarks .In (.Name x px) = false := by rfl) (hd : (x == ("__debug__" : Str)) = false := by decide) :
    PE X (.Compare a [.In] [.Name x px] pos) (tOf (X.fg tq) (mInG keys ma)) := by
  obtain ⟨d, es, n, D, e, hz⟩ := D.ex
  refine PE.imp (pe_cmpR (op_in_kd D) ha (pe_glob (v := .ref d) hg e rfl hd) hm) ?_
  rintro σ H Q ⟨G, e, d, e', rel, hm, k⟩
  obtain ⟨⟨d1, e1⟩, h1, hm⟩ := Option.bind_eq_some_iff.mp hm
  simp only at hm
  split at hm
  · rename_i z
    cases hm
    refine ⟨G, e, _, _, rel, h1, fun v H1 s1 r1 dp => ?_⟩
    cases dp
    obtain ⟨r, hr, hk⟩ := hz z
    exact ⟨z, r, rfl, rfl, hr, by rw [hk]; exact k _ _ s1 r1 (.bl _)⟩
  · cases hm
end
end PB

set_option maxHeartbeats 4000000
namespace PB
open PySem PySem.Spec PyProof.Rows L2
def strKey : Value → Option Str
  | .str x _ => some x
  | _ => none
theorem nsIn_list (z : Str) : ∀ (l : List DictEntry) (keys : List Str), l.map (fun e => strKey e.key) = keys.map some → (l.find? (·.key.isStr z)).isSome = keys.contains z ∧ l.any (·.refKey) = false
  | [], [], _ => ⟨rfl, rfl⟩
  | [], _ :: _, h => by simp at h
  | _ :: _, [], h => by simp at h
  | e :: l, k :: keys, h => by
    rw [List.map_cons, List.map_cons, List.cons.injEq] at h
    obtain ⟨h1, h2⟩ := h
    obtain ⟨i1, i2⟩ := nsIn_list z l keys h2
    cases hk : e.key <;> rw [hk] at h1 <;> simp [strKey] at h1
    subst h1
    rename_i x t
    have e1 : e.key.isStr z = (x == z) := by rw [hk]; rfl
    have e2 : e.refKey = false := by unfold DictEntry.refKey; rw [hk]
    refine ⟨?_, by rw [List.any_cons, e2, i2]; rfl⟩
    rw [List.find?_cons, e1, List.contains_cons]
    have : (z == x) = (x == z) := by
      rw [Bool.eq_iff_iff, beq_iff_eq, beq_iff_eq]
      exact eq_comm
    rw [this]
    cases (x == z)
    · simpa using i1
    · rfl
theorem gdict_mk {K : PySem.W.Frag} {w : World} {mg : Str → Option Value} {h : Heap} {x : Str} {keys : List Str} {d : Addr} {es : Array DictEntry} {n : Nat} (X : K.In h) (G : h.Ns mainGlobals mg) (a : PySem.W.nsIn K mainGlobals x = some (some (.ref d)))
    (l : K.lookup d = some ⟨.type "dict", none, .dict es n, #[]⟩) (k : PySem.W.KeysLit w.params es.toList) (o : (d == sysModules) = false) (e : es.toList.map (fun e => strKey e.key) = keys.map some) : GDict K w mg x keys := by
  refine ⟨d, es, n, ⟨l, k, o⟩, PySem.W.mg_of X G a, fun z => ?_⟩
  obtain ⟨e1, e2⟩ := nsIn_list z es.toList keys e
  unfold PySem.W.nsIn
  rw [l]
  simp only
  cases hf : es.toList.find? (·.key.isStr z) with
  | some v =>
    rw [hf] at e1
    exact ⟨_, rfl, by rw [← e1]; rfl⟩
  | none =>
    rw [hf] at e1
    rw [e2]
    exact ⟨_, rfl, by rw [← e1]; rfl⟩
section
variable {X : Cx} {a b : Expr} {ma mb : ME} {pos p : Pos}
/-- a + b of lists, as a new list -/
def mCatN (a b : ME) : ML := fun e => (a e).bind fun r => (b r.2).bind fun q => match r.1, q.1 with
  | .list x, .list y => if szOk (x.length + y.length) = true then some (x ++ y, q.2) else none
  | _, _ => none
theorem jn_cat (ha : PE X a (tOf (X.fg tq) ma)) (hb : PE X b (tOf (X.fg tq) mb)) : PE X (.BinOp a .Add b pos) (tNOf (X.fg tq) (mCatN ma mb)) := by
  refine PE.imp (pe_op op_catL ha hb) ?_
  rintro σ H Q ⟨G, e, d, e', rel, hm, k⟩
  obtain ⟨⟨d1, e1⟩, h1, hm⟩ := Option.bind_eq_some_iff.mp hm
  obtain ⟨⟨d2, e2⟩, h2, hm⟩ := Option.bind_eq_some_iff.mp hm
  simp only at hm h2
  split at hm
  · rename_i x y
    split at hm
    · rename_i hz
      cases hm
      refine ⟨G, e, _, e1, rel, h1, fun v1 H1 s1 r1 p1 => ⟨G, e1, _, _, r1, h2, fun v2 H2 s2 r2 p2 => ?_⟩⟩
      obtain ⟨l, xs, rfl, q1, t1⟩ := dp_list (dp_mono s2.vis p1)
      obtain ⟨l2, ys, rfl, q2, t2⟩ := dp_list p2
      refine ⟨l, l2, xs, ys, rfl, rfl, same_cut.seq q1, same_cut.seq q2, by rw [dpa_len t1, dpa_len t2]; exact szOk_le hz, fun pp hp => ?_⟩
      have st := s1.trans s2
      exact k pp _ _ (st.trans (.grow (same_new hp))) (r2.foreign hp) (st.there pp hp) upd_same (dpa_mono (vis_foreign hp) (dpa_app t1 t2))
    · cases hm
  · cases hm
end
section
variable {e : Sg} {a b c : ME} {s t u : MT} {m l : ML} {x y : MS} {d : D} {i j : Nat} {P : D → Sg → Prop} {PT : Bool → Sg → Prop} {PL : List D → Sg → Prop} {PS : Out → Sg → Prop}
@[simp] theorem ev_SortT : mSortT a e = (a e).bind fun r => match r.1 with
  | .tuple ds => if sortOk ds = true then some (srt ds, r.2) else none
  | _ => none := rfl
@[simp] theorem ev_InG {ks : List Str} : mInG ks a e = (a e).bind fun r => match r.1 with
  | .str z => some (.bool (ks.contains z), r.2)
  | _ => none := rfl
theorem en_CatN (h : Ens a e fun x e1 => Ens b e1 fun y e2 => ∃ r q, x = .list r ∧ y = .list q ∧ r.length + q.length ≤ 100000 ∧ PL (r ++ q) e2) : Ens (mCatN a b) e PL := by
  obtain ⟨x, e1, h1, y, e2, h2, r, q, rfl, rfl, h3, h4⟩ := h
  exact ⟨_, e2, by unfold mCatN; simp [h1, h2, szOk, h3], h4⟩
theorem en_Pop (i : Nat) (h : (∃ b dd, e[i]? = some (some (.own b dd))) ∧ Ens a e fun r e1 => ∃ (j : Nat) (b : Bool) (ds : List D) (z : D), r = .int (j : Nat) ∧ e1[i]? = some (some (.own b ds)) ∧ j < 1000000 ∧ ds[j]? = some z ∧ P z (e1.set i (some (.own b (ds.eraseIdx j))))) : Ens (mPop i a) e P := by
  obtain ⟨⟨b0, dd, h0⟩, r, e1, h1, j, b, ds, z, rfl, h2, h3, h4, h5⟩ := h
  refine ⟨z, _, ?_, h5⟩
  unfold mPop
  have q : (decide ((0 : Int) ≤ (j : Nat)) && decide (((j : Nat) : Int) < 1000000)) = true := by
    rw [Bool.and_eq_true, decide_eq_true_eq, decide_eq_true_eq]
    omega
  rw [h0]
  simp only [h1, Option.bind_some, h2, if_pos q, Int.toNat_natCast, h4, Option.map_some]
theorem en_NeOwn (i : Nat) (h : (∃ b dd, e[i]? = some (some (.own b dd))) ∧ Ens a e fun r e1 => ∃ b ds z, e1[i]? = some (some (.own b ds)) ∧ dNe (.list ds) r = some z ∧ P z e1) : Ens (mNeOwn i a) e P := by
  obtain ⟨⟨b0, dd, h0⟩, r, e1, h1, b, ds, z, h2, h3, h4⟩ := h
  refine ⟨z, e1, ?_, h4⟩
  unfold mNeOwn
  rw [h0]
  simp only [h1, Option.bind_some, h2, h3, Option.map_some]
/-- a while by its turns: I k holds ahead of the turn with at most k left -/
theorem es_While {n : Nat} (I : Nat → Sg → Prop) (k : Nat) (hk : k < n) (h0 : I k e) (hs : ∀ k e, I k e → Ens t e fun b e1 => if b = true then ∃ k', k = k' + 1 ∧ Ens x e1 fun o e2 => (o = .next ∨ o = .cont) ∧ I k' e2 else PS .next e1) : Ens (whileGo t x n) e PS := by
  induction n generalizing k e with
  | zero => omega
  | succ n ih =>
    obtain ⟨b, e1, h1, h2⟩ := hs k e h0
    cases b with
    | false => exact ⟨.next, e1, by unfold whileGo; simp [h1], by simpa using h2⟩
    | true =>
      rw [if_pos rfl] at h2
      obtain ⟨k', rfl, o, e2, h3, ho, h4⟩ := h2
      obtain ⟨o2, e3, h5, h6⟩ := ih k' (by omega) h4
      refine ⟨o2, e3, ?_, h6⟩
      unfold whileGo
      rcases ho with rfl | rfl <;> simp [h1, h3, h5]
end
end PB

set_option maxHeartbeats 4000000
/-! Own layer, further: defs as values; dict(pairs), in, for dicts with keys that are numbers or texts. -/
namespace PB
open PySem PySem.Spec PyProof.Rows L2
/-! ### defs as values -/
structure FnAt (K : PySem.W.Frag) (mg : Str → Option Value) (x : Str) : Prop where
  ex : ∃ f, PySem.W.nsIn K mainGlobals x = some (some (.ref f)) ∧ mg x = some (.ref f)
def isFnS (e : Sg) (i : Nat) (x : Str) : Bool := match e[i]? with
  | some (some (.fn y)) => y == x
  | _ => false
theorem isFnS_at {e : Sg} {i : Nat} {x : Str} (h : isFnS e i x = true) : e[i]? = some (some (.fn x)) := by
  unfold isFnS at h
  split at h
  · rename_i y hy
    rw [beq_iff_eq] at h
    rw [hy, h]
  · cases h
/-- g(..), g a name that holds the def x -/
def mCallF (i : Nat) (x : Str) (n : Nat) (f : Fp) (ms : ML) : ME := fun e => if isFnS e i x = true then mCall n f ms e else none
/-- y(x, ..), the first argument the def x; y(g, ..) -/
def mCallG (n : Nat) (f : Fp) (ms : ML) : ME := fun e => (ms e).bind fun r => if r.1.length + 1 = n then (f r.1).map fun x => (toD x, r.2) else none
def mCallV (i : Nat) (x : Str) (n : Nat) (f : Fp) (ms : ML) : ME := fun e => if isFnS e i x = true then mCallG n f ms e else none
def spF (K : Frag) (x : Str) (n : Nat) (f : Fp) : Sp := fun vs H Q _ => ∃ (fa : Addr) (vs' : List V) (G : Addr → Prop) (ds : List D) (r : Rt), vs = .ref fa :: vs' ∧ PySem.W.nsIn K mainGlobals x = some (some (.ref fa)) ∧ (∀ a, G a → H a ≠ none) ∧
  DpAll K (cut H G) vs' ds ∧ ds.length + 1 = n ∧ f ds = some r ∧ LamX.Tabs K.T H ∧ ∀ v H', ExtT H H' → LamX.Tabs K.T H' → RtRel K G H H' v r → Q v H'
def startF (n : Nat) (x : Str) (ds : List D) : Sg := some (.fn x) :: startE (n - 1) ds
def runF (n : Nat) (x : Str) (M : MS) : Fp := fun ds => match M (startF n x ds) with
  | some (.ret r, _) => some r
  | some (.next, _) => some (.val .none)
  | _ => none
section
variable {K : Frag} {X : Cx} {a : Expr} {es : List Expr} {ms : ML} {x y : Str} {p pos : Pos} {k n : Nat} {f : Fp}
theorem je_callF (i : Nat) (o : DefOk X.prog X.w X.K X.mg X.base k x (spP (X.fg tq) n f)) (fa : FnAt X.K X.mg x) (hr : Room k X.A) (ha : PA X (a :: es) (tAOf (X.fg tq) ms)) (hN : X.N[i]? = some y := by rfl) (hv : Vis X.env.scope y := by first | exact Or.inl rfl | exact Or.inr (Or.inl rfl) | exact Or.inr (Or.inr rfl))
    (hdb : (y == ("__debug__" : Str)) = false := by decide) (hcd : (y == ("__classdict__" : Str)) = false := by decide) (he : starEach (a :: es) X.env = (false, eval a X.env) :: starEach es X.env := by rfl) (hpl : (backTo pos (starEach es X.env)).any (·.1) = false := by rfl) :
    PE X (.Call (.Name y p) (a :: es) [] pos) (tOf (X.fg tq) (mCallF i x n f ms)) := by
  obtain ⟨f0, fd, ps, h1, h2, h3, h4⟩ := o.ex
  obtain ⟨f1, n1, n2⟩ := fa.ex
  rw [h2] at n2
  cases n2
  refine PE.imp (pe_callL (i := i) (E := E0) h1 hr hN hv h3 h4 .nil pass0 ha hdb hcd he hpl) ?_
  rintro σ H Q ⟨G, e, d, e', rel, hm, k⟩
  unfold mCallF at hm
  split at hm
  · rename_i hf
    obtain ⟨f2, m1, m2⟩ := rel.fnr i x (isFnS_at hf)
    have e2 : PySem.W.nsIn X.K mainGlobals x = some (some (.ref f2)) := m1
    rw [n1] at e2
    cases e2
    refine ⟨m2, ?_⟩
    obtain ⟨⟨ds, e1⟩, q1, hm⟩ := Option.bind_eq_some_iff.mp hm
    simp only at hm
    split at hm
    · rename_i hn
      obtain ⟨r, q2, hm⟩ := Option.map_eq_some_iff.mp hm
      obtain ⟨rfl, rfl⟩ := Prod.mk.inj hm
      refine ⟨G, e, ds, _, rel, q1, fun vs H1 s1 r1 dps => ?_⟩
      show spP _ _ _ (vs ++ []) _ _ _
      rw [List.append_nil]
      exact ⟨fun a => G a ∨ Own σ _ a, ds, r, r1.ne0, dps, hn, q2, r1.tab, fun v H2 sm tt rr => k v H2 (s1.trans (.growT sm)) (r1.growT sm tt) (rr.toD r1.ne0)⟩
    · cases hm
  · cases hm
theorem callG_of {fa : Addr} {te : TE} (hx : PySem.W.nsIn K mainGlobals x = some (some (.ref fa))) (hte : ∀ σ H Q, Q (.ref fa) H → te σ H Q) : ∀ σ H Q, tOf K (mCallG n f ms) σ H Q → tCall (spF K x n f) [] E0 (tCons te (tAOf K ms)) σ H Q := by
  rintro σ H Q ⟨G, e, d, e', rel, hm, k⟩
  obtain ⟨⟨ds, e1⟩, q1, hm⟩ := Option.bind_eq_some_iff.mp hm
  simp only at hm
  split at hm
  · rename_i hn
    obtain ⟨r, q2, hm⟩ := Option.map_eq_some_iff.mp hm
    obtain ⟨rfl, rfl⟩ := Prod.mk.inj hm
    refine hte σ H _ ⟨G, e, ds, _, rel, q1, fun vs H1 s1 r1 dps => ?_⟩
    show spF K x n f ((V.ref fa :: vs) ++ []) H1 _ _
    rw [List.append_nil]
    exact ⟨fa, vs, fun a => G a ∨ Own σ _ a, ds, r, rfl, hx, r1.ne0, dps, hn, q2, r1.tab, fun v H2 sm tt rr => k v H2 (s1.trans (.growT sm)) (r1.growT sm tt) (rr.toD r1.ne0)⟩
  · cases hm
theorem je_callG {px : Pos} (o : DefOk X.prog X.w X.K X.mg X.base k y (spF (X.fg tq) x n f)) (fa : FnAt X.K X.mg x) (hr : Room k X.A) (hg : Gl X y) (hgx : Gl X x) (ha : PA X es (tAOf (X.fg tq) ms)) (hdb : (y == ("__debug__" : Str)) = false := by decide) (hdx : (x == ("__debug__" : Str)) = false := by decide)
    (he : starEach (.Name x px :: es) X.env = (false, eval (.Name x px) X.env) :: starEach es X.env := by rfl) (hpl : (backTo pos (starEach es X.env)).any (·.1) = false := by rfl) : PE X (.Call (.Name y p) (.Name x px :: es) [] pos) (tOf (X.fg tq) (mCallG n f ms)) := by
  obtain ⟨f0, fd, ps, h1, h2, h3, h4⟩ := o.ex
  obtain ⟨f1, n1, n2⟩ := fa.ex
  exact PE.imp (pe_call (E := E0) h1 hr hg h2 h3 h4 .nil pass0 (pa_cons (pe_glob (v := .ref f1) hgx n2 rfl hdx) ha he) hdb he hpl) (callG_of n1 fun σ H Q q => q)
theorem je_callV (i : Nat) {z : Str} {pz : Pos} (o : DefOk X.prog X.w X.K X.mg X.base k y (spF (X.fg tq) x n f)) (fa : FnAt X.K X.mg x) (hr : Room k X.A) (hg : Gl X y) (ha : PA X es (tAOf (X.fg tq) ms)) (hN : X.N[i]? = some z := by rfl) (hv : Vis X.env.scope z := by first | exact Or.inl rfl | exact Or.inr (Or.inl rfl) | exact Or.inr (Or.inr rfl))
    (hd : (z == ("__debug__" : Str)) = false := by decide) (hcd : (z == ("__classdict__" : Str)) = false := by decide) (hdb : (y == ("__debug__" : Str)) = false := by decide)
    (he : starEach (.Name z pz :: es) X.env = (false, eval (.Name z pz) X.env) :: starEach es X.env := by rfl) (hpl : (backTo pos (starEach es X.env)).any (·.1) = false := by rfl) : PE X (.Call (.Name y p) (.Name z pz :: es) [] pos) (tOf (X.fg tq) (mCallV i x n f ms)) := by
  obtain ⟨f0, fd, ps, h1, h2, h3, h4⟩ := o.ex
  obtain ⟨f1, n1, n2⟩ := fa.ex
  refine PE.imp (pe_call (E := E0) h1 hr hg h2 h3 h4 .nil pass0 (pa_cons (pe_var hN hv hd hcd) ha he) hdb he hpl) ?_
  rintro σ H Q ⟨G, e, d, e', rel, hm, k⟩
  unfold mCallV at hm
  split at hm
  · rename_i hf
    obtain ⟨f2, m1, m2⟩ := rel.fnr i x (isFnS_at hf)
    have e2 : PySem.W.nsIn X.K mainGlobals x = some (some (.ref f2)) := m1
    rw [n1] at e2
    cases e2
    exact callG_of (te := fun σ' H' Q' => σ' = σ → Q' (.ref f1) H') n1 (fun _ _ _ q _ => q) σ H Q ⟨G, e, d, e', rel, hm, k⟩ |> fun w => ⟨.ref f1, m2, w rfl⟩
  · cases hm
theorem startF_get {n : Nat} {ds : List D} {i : Nat} {s : Sl} (h : (startF n x ds)[i]? = some (some s)) : (i = 0 ∧ s = .fn x) ∨ ∃ j d, i = j + 1 ∧ ds[j]? = some d ∧ s = .val d := by
  cases i with
  | zero =>
    cases h
    exact .inl ⟨rfl, rfl⟩
  | succ j =>
    have h' : (startE (n - 1) ds)[j]? = some (some s) := h
    obtain ⟨d, h1, h2⟩ := startE_get h'
    exact .inr ⟨j, d, rfl, h1, h2⟩
end
section
variable {P : Program} {w : World} {K : PySem.W.Frag} {mg : Str → Option Value} {base : Heap} {x y : Str} {st : Stmt} {N ps : List Str} {k : Nat} {M : MS}
theorem fn_fun {f : Addr} {fd : FuncData} (F : Fun K y y st f fd) (S : FnScope N ps (defScope st)) (hNl : ps.length ≤ N.length)
    (hb : ∀ (cdv : Value) (A : Around) (outer : List Env) (s : Shared) (H : Hp) (E : XK), Room k (A.deeper (envOfC y (defScope st) s.heap.objs.size f cdv)) → PSs (cxOf CX0 P w K mg base N y (defScope st) f cdv A outer s H E).nox (defBody st) (tSOf (fg K P w tq) M)) :
    FnOk P w K mg base CX0 (k + 1) f fd ps (spF (fg K P w tq) x ps.length (runF N.length x M)) := by
  refine F.ok S (fun vs H Q E h => ?_) (fun cdv A outer s H vs Q E hr h => ⟨_, hb cdv A outer s H E hr, ?_⟩)
  · obtain ⟨fa, vs', G, ds, r, e, _, _, h2, h3, _⟩ := h
    rw [e, List.length_cons, dpa_len h2, h3]
  · obtain ⟨fa, vs', G, ds, r, e, hx, hG, hd, hl, hf, ht, q⟩ := h
    subst e
    have e0 : ∀ a, ¬ Own (start N (.ref fa :: vs')) (startF N.length x ds) a := by
      rintro a ⟨i, b, ds', h1, _⟩
      rcases startF_get h1 with ⟨_, z⟩ | ⟨_, _, _, _, z⟩ <;> cases z
    have sm : Same (cut H G) (vis G (start N (.ref fa :: vs')) (startF N.length x ds) H) := fun a o h => cut_of (fun w => w.elim (cut_mp h).1 (e0 a)) (cut_mp h).2
    have lv := dpa_len hd
    have rel : Rel (fg K P w tq) G (start N (.ref fa :: vs')) H (startF N.length x ds) := by
      refine ⟨?_, fun i d h => ?_, fun i b ds' h => ?_, fun i j b c ds' es p h => ?_, hG, ht, fun i z h => ?_⟩
      · unfold L2.start startF startE
        simp only [List.length_append, List.length_map, List.length_replicate, List.length_cons]
        omega
      · rcases startF_get h with ⟨_, z⟩ | ⟨j, d', rfl, h1, h2⟩
        · cases z
        · cases h2
          obtain ⟨v, h3, h4⟩ := dpa_get hd h1
          exact ⟨v, start_get (vs := .ref fa :: vs') (by rw [List.getElem?_cons_succ]; exact h3), dp_mono sm h4⟩
      · rcases startF_get h with ⟨_, z⟩ | ⟨_, _, _, _, z⟩ <;> cases z
      · rcases startF_get h with ⟨_, z⟩ | ⟨_, _, _, _, z⟩ <;> cases z
      · rcases startF_get h with ⟨rfl, z⟩ | ⟨_, _, _, _, z⟩
        · cases z
          exact ⟨fa, hx, start_get (vs := .ref fa :: vs') rfl⟩
        · cases z
    have keepS : ∀ {σ' : SS} {e' : Sg} {H' : Hp}, Step (start N (.ref fa :: vs')) (startF N.length x ds) H σ' e' H' → ExtT H H' := fun s => ⟨fun a o h nt => s.keep a o h (e0 a) nt, s.there⟩
    unfold runF at hf
    split at hf
    · rename_i r' e' hm
      cases hf
      exact ⟨G, _, _, _, rel, hm, fun v σ' H' s rl rr => q v H' (keepS s) rl.tab (rr.mono fun a w => .inl w)⟩
    · rename_i e' hm
      cases hf
      exact ⟨G, _, _, _, rel, hm, fun σ' H' s rl => q _ H' (keepS s) rl.tab .non⟩
    · cases hf
theorem def_fun (d : DefAt K mg y st) (S : FnScope N ps (defScope st)) (hNl : ps.length ≤ N.length)
    (bd : ∀ (kV doc pm : Value) (an : Option Addr) (cdv ct : Value) (us : List Value), us.length = ps.length → bindArgs (PySem.W.fnOf y y (defArgs st) (defBody st) (defScope st) .none kV doc pm an cdv ct) ⟨us, []⟩ = pure (ps.zip us))
    (hb : ∀ (f : Addr) (cdv : Value) (A : Around) (outer : List Env) (s : Shared) (H : Hp) (E : XK), Room k (A.deeper (envOfC y (defScope st) s.heap.objs.size f cdv)) → PSs (cxOf CX0 P w K mg base N y (defScope st) f cdv A outer s H E).nox (defBody st) (tSOf (fg K P w tq) M)) :
    DefOk P w K mg base (k + 1) y (spF (fg K P w tq) x ps.length (runF N.length x M)) := by
  obtain ⟨f, fd, F, g⟩ := d.ex
  exact ⟨f, fd, ps, fn_fun F S hNl (hb f), g, F.kp, F.binds bd⟩
theorem fnat_mk {K : PySem.W.Frag} {mg : Str → Option Value} {h : Heap} {x : Str} {f : Addr} (X : K.In h) (G : h.Ns mainGlobals mg) (a : PySem.W.nsIn K mainGlobals x = some (some (.ref f))) : FnAt K mg x := ⟨⟨f, a, PySem.W.mg_of X G a⟩⟩
end
end PB

set_option maxHeartbeats 4000000
/-! Own layer, further: dict(pairs) of a tuple, and in, keys are numbers or texts. -/
namespace PB
open PySem PySem.Spec PyProof.Rows L2
section
variable {X : Cx}
/-- dict(t), t a tuple of pairs -/
def rDictT (K : Frag) : List V → Hp → VK → Prop := fun xs H Q => ∃ (a : Addr) (ps : List Addr) (kvs : List (Key × V)), xs = [.ref a] ∧ SqS H a (ps.map V.ref) ∧ Paired (fun p kv => SqT K.K H p [kV kv.1, kv.2]) ps kvs ∧
  ∀ p, H p = none → Q (.ref p) (upd H p (.dK (mergeK [] kvs)))
theorem cr_dictT (hc : X.calm = true) : CallR X (.type "dict") (rDictT (X.fg tq)) := fun pins s σ H xs us Q I r h => by
  obtain ⟨a, ps, kvs, rfl, hs, hp, q⟩ := h
  rw [Vals.ref1 r]
  obtain ⟨o, ho, hdn⟩ := hs
  obtain ⟨h0, hz, its, rv, o', h1, hcl, n, hdat⟩ := (show ObjOk X.prog X.w H s.heap a (.frz o (.tup (ps.map V.ref))) from I.hok a _ ho)
  rw [h0] at h1
  cases h1
  obtain ⟨prs, rk, hl, hpr⟩ := pairs_of I hp
  have ei := refs_at rv
  subst ei
  have hlen : ps.length ≤ sizeLine := by rwa [List.length_map] at hz
  -- the pairs as the library asks for them
  have look : ∀ (j : Nat) (p : Addr), ps[j]? = some p → ∃ kv : Key × Value, prs[j]? = some kv ∧ ∃ u, IsTup s.heap p #[u, kv.2] ∧ keyIs kv.1 u = true := fun j p hj => by
    have hj' : j < prs.length := by
      rw [hl]
      exact (List.getElem?_eq_some_iff.mp hj).1
    obtain ⟨b, u, e1, e2, e3⟩ := hpr j prs[j] (List.getElem?_eq_getElem hj')
    rw [hj] at e1
    cases e1
    exact ⟨_, List.getElem?_eq_getElem hj', u, e2, e3⟩
  have uv : ∃ ws : List (Value × Value), ws.length = ps.length ∧ ∀ (j : Nat) (k v : Value), ws[j]? = some (k, v) → ∃ p kk, ps[j]? = some p ∧ prs[j]? = some (kk, v) ∧ keyIs kk k = true ∧ IsTup s.heap p #[k, v] := by
    clear rv hdat h0 hz q hlen
    have gen : ∀ (qs : List Addr) (rs : List (Key × Value)), qs.length = rs.length → (∀ (j : Nat) (p : Addr), qs[j]? = some p → ∃ kv : Key × Value, rs[j]? = some kv ∧ ∃ u, IsTup s.heap p #[u, kv.2] ∧ keyIs kv.1 u = true) →
        ∃ ws : List (Value × Value), ws.length = qs.length ∧ ∀ (j : Nat) (k v : Value), ws[j]? = some (k, v) → ∃ p kk, qs[j]? = some p ∧ rs[j]? = some (kk, v) ∧ keyIs kk k = true ∧ IsTup s.heap p #[k, v] := by
      intro qs
      induction qs with
      | nil => exact fun rs _ _ => ⟨[], rfl, fun j k v e => by simp at e⟩
      | cons p qs ih =>
        intro rs el lk
        cases rs with
        | nil => simp at el
        | cons kv rs =>
          obtain ⟨kv', z1, u, z2, z3⟩ := lk 0 p rfl
          have : kv = kv' := Option.some.inj z1
          subst this
          obtain ⟨ws, w1, w2⟩ := ih rs (by simpa using el) fun j p hj => lk (j + 1) p (by rw [List.getElem?_cons_succ]; exact hj)
          refine ⟨(u, kv.2) :: ws, by rw [List.length_cons, List.length_cons, w1], fun j k v e => ?_⟩
          cases j with
          | zero =>
            have e' : (u, kv.2) = (k, v) := Option.some.inj e
            cases e'
            exact ⟨p, kv.1, rfl, rfl, z3, z2⟩
          | succ j =>
            rw [List.getElem?_cons_succ] at e
            obtain ⟨p', kk, y1, y2, y3, y4⟩ := w2 j k v e
            exact ⟨p', kk, by rw [List.getElem?_cons_succ]; exact y1, by rw [List.getElem?_cons_succ]; exact y2, y3, y4⟩
    exact gen ps prs hl.symm look
  obtain ⟨ws, wl, wp⟩ := uv
  have P := PySem.PairArg.tuple (prog := X.prog) (w := X.w) a (ps.map Value.ref).toArray (fun j => ps.getD j 0) ws
  refine PySem.call_dict_pairs (knd := mixKind X.prog X.w) (kvs := prs) P (I.ok.hd hc) ⟨⟨o, n, h0, hcl, hdn, hdat⟩, ?_⟩ ⟨by rw [hl, wl], fun i key v hr => ?_⟩ (by rw [wl]; exact hlen) fun h' tk hd hk => ?_
  · refine ⟨by rw [List.size_toArray, List.length_map, wl], fun j k v hj => ?_⟩
    obtain ⟨p, kk, y1, y2, y3, o2, y4, y5, n2, y6⟩ := wp j k v hj
    have eg : ps.getD j 0 = p := by rw [List.getD_eq_getElem?_getD, y1]; rfl
    show (ps.map Value.ref).toArray[j]? = some (Value.ref (ps.getD j 0)) ∧ PySem.PairAt s.heap (ps.getD j 0) k v
    rw [eg]
    refine ⟨?_, .inl ⟨o2, y4, y5, n2, y6⟩⟩
    rw [← Array.getElem?_toList, List.getElem?_map, y1]
    rfl
  · obtain ⟨p, kk, y1, y2, y3, _⟩ := wp i key v hr
    exact ⟨kk, y2, y3⟩
  · have hn : H s.heap.objs.size = none := I.hok.fresh (Nat.le_refl _)
    have kvl : kvs.length = prs.length := by
      have := Paired.length rk
      exact this
    have ml : (mergeK [] kvs).length ≤ 0 + kvs.length := length_mergeK kvs []
    refine ⟨.ref _, _, I.laid (t' := tk) (o := .dK (mergeK [] kvs)) (fun b u e => hk b u (by simp) e) (Nat.le_refl _) ⟨?_, ?_, _, KV.merge rk .nil, hd⟩, rfl, q _ hn⟩
    · exact Nat.le_trans ml (by rw [Nat.zero_add, kvl, hl]; exact hlen)
    · rw [beq_eq_false_iff_ne]
      intro z
      have := I.big
      rw [← z] at this
      exact absurd this (Nat.lt_irrefl _)
/-! ### as data -/
def leafK : D → Option Key
  | .int i => some (.inl i)
  | .str x => some (.inr x)
  | _ => none
theorem leafK_d {d : D} {k : Key} (h : leafK d = some k) : d = keyD k := by
  unfold leafK at h
  split at h <;> cases h <;> rfl
def pairsL : List D → Option (List (Key × D))
  | [] => some []
  | .tuple [k, v] :: r => (leafK k).bind fun k' => (pairsL r).map ((k', v) :: ·)
  | _ :: _ => none
def putD (acc : List (Key × D)) (k : Key) (d : D) : List (Key × D) := if acc.any (fun p => decide (p.1 = k)) = true then acc.map (fun p => if p.1 = k then (p.1, d) else p) else acc ++ [(k, d)]
def mergeD (acc more : List (Key × D)) : List (Key × D) := more.foldl (fun a p => putD a p.1 p.2) acc
def outD (l : List (Key × D)) : List (D × D) := l.map fun p => (keyD p.1, p.2)
/-- entries and their data, the keys as they are -/
inductive DpL (K : Frag) (H : Hp) : List (Key × V) → List (Key × D) → Prop
  | nil : DpL K H [] []
  | cons {k : Key} {v : V} {d : D} {kvs : List (Key × V)} {ds : List (Key × D)} : Dp K H v d → DpL K H kvs ds → DpL K H ((k, v) :: kvs) ((k, d) :: ds)
theorem DpL.out {K : Frag} {H : Hp} : ∀ {kvs : List (Key × V)} {ds : List (Key × D)}, DpL K H kvs ds → DpK K H kvs (outD ds)
  | _, _, .nil => .nil
  | _, _, .cons h t => .cons h t.out
theorem DpL.app {K : Frag} {H : Hp} : ∀ {a b : List (Key × V)} {c d : List (Key × D)}, DpL K H a c → DpL K H b d → DpL K H (a ++ b) (c ++ d)
  | _, _, _, _, .nil, h => h
  | _, _, _, _, .cons h t, u => .cons h (t.app u)
theorem DpL.any {K : Frag} {H : Hp} (p : Key → Bool) : ∀ {a : List (Key × V)} {c : List (Key × D)}, DpL K H a c → (a.any fun x => p x.1) = c.any fun x => p x.1
  | _, _, .nil => rfl
  | _, _, .cons h t => by rw [List.any_cons, List.any_cons, t.any p]
theorem DpL.store {K : Frag} {H : Hp} {k : Key} {v : V} {d : D} (hv : Dp K H v d) : ∀ {a : List (Key × V)} {c : List (Key × D)}, DpL K H a c → DpL K H (a.map fun p => if p.1 = k then (p.1, v) else p) (c.map fun p => if p.1 = k then (p.1, d) else p)
  | _, _, .nil => .nil
  | _, _, .cons (k := k') h t => by
    rw [List.map_cons, List.map_cons]
    by_cases e : k' = k
    · rw [if_pos e, if_pos e]
      exact .cons hv (t.store hv)
    · rw [if_neg e, if_neg e]
      exact .cons h (t.store hv)
theorem DpL.put {K : Frag} {H : Hp} {k : Key} {v : V} {d : D} (hv : Dp K H v d) {a : List (Key × V)} {c : List (Key × D)} (h : DpL K H a c) : DpL K H (putK a k v) (putD c k d) := by
  unfold putK putD
  have e := h.any fun x => decide (x = k)
  rw [e]
  split
  · exact h.store hv
  · exact h.app (.cons hv .nil)
theorem DpL.merge {K : Frag} {H : Hp} : ∀ {b : List (Key × V)} {d : List (Key × D)} {a : List (Key × V)} {c : List (Key × D)}, DpL K H b d → DpL K H a c → DpL K H (mergeK a b) (mergeD c d)
  | _, _, _, _, .nil, h => h
  | _, _, _, _, .cons hv t, h => by
    show DpL K H (mergeK (putK _ _ _) _) (mergeD (putD _ _ _) _)
    exact t.merge (h.put hv)
theorem DpL.mono {K : Frag} {H H' : Hp} (s : Same H H') : ∀ {a : List (Key × V)} {c : List (Key × D)}, DpL K H a c → DpL K H' a c
  | _, _, .nil => .nil
  | _, _, .cons h t => .cons (dp_mono s h) (t.mono s)
theorem pairsL_dp {K : Frag} {H : Hp} : ∀ {ds : List D} {vs : List V} {kds : List (Key × D)}, DpAll K H vs ds → pairsL ds = some kds → ∃ (ps : List Addr) (kvs : List (Key × V)), vs = ps.map V.ref ∧ Paired (fun p (kv : Key × V) => SqT K.K H p [kV kv.1, kv.2]) ps kvs ∧ DpL K H kvs kds
  | [], _, _, .nil, h => by
    cases h
    exact ⟨[], [], rfl, .nil, .nil⟩
  | d :: ds, _, kds, .cons h1 h2, h => by
    unfold pairsL at h
    split at h
    · rename_i z
      cases z
    · rename_i z
      cases z
      obtain ⟨k', e1, h⟩ := Option.bind_eq_some_iff.mp h
      obtain ⟨r, e2, h⟩ := Option.map_eq_some_iff.mp h
      cases h
      obtain ⟨ps, kvs, q1, q2, q3⟩ := pairsL_dp h2 e2
      obtain ⟨p, xs, rfl, t1, t2⟩ := dp_tup h1
      cases t2 with
      | cons a1 t2 =>
        cases t2 with
        | cons a2 t2 =>
          cases t2
          rename_i k0 _ u1 u2
          have ek : u1 = kV k' := by
            rw [leafK_d e1] at a1
            cases k' <;> cases a1 <;> rfl
          subst ek
          exact ⟨p :: ps, (k', u2) :: kvs, by rw [q1]; rfl, .cons t1 q2, .cons a2 q3⟩
    · cases h
def fDict : List D → Option D
  | [.tuple ds] => (pairsL ds).map fun kds => .dict (outD (mergeD [] kds))
  | _ => none
theorem does_dict {K : Frag} : DoesC K (rDictT K) fDict := by
  intro F H vs ds c Q hF ha hf k
  unfold fDict at hf
  split at hf
  · obtain ⟨kds, e1, rfl⟩ := Option.map_eq_some_iff.mp hf
    obtain ⟨v, rfl, h⟩ := dpa_one ha
    obtain ⟨l, xs, rfl, q1, t1⟩ := dp_tupS h
    obtain ⟨ps, kvs, rfl, q2, q3⟩ := pairsL_dp t1 e1
    refine ⟨l, ps, kvs, rfl, q1.mono same_cut, Paired.mapP q2 fun p kv z => same_tup same_cut z, fun p hp => k _ _ (same_new hp) ?_⟩
    exact .dk (cut_of (fun w => hF p w hp) upd_same) (DpL.mono (same_cuts (same_new hp)) (q3.merge .nil)).out
  · cases hf
theorem boot_dict' : bootBuiltins "dict" = some (.type "dict") := by decide +kernel
theorem je_dict {a : Expr} {ma : ME} {p pos : Pos} (hc : X.calm = true) (hg : Gl X "dict") (hm : X.mg "dict" = none) (ha : PE X a (tOf (X.fg tq) ma)) (he : starEach [a] X.env = (false, eval a X.env) :: starEach [] X.env := by rfl) (hpl : (backTo pos (starEach [] X.env)).any (·.1) = false := by rfl) :
    PE X (.Call (.Name "dict" p) [a] [] pos) (tOf (X.fg tq) (mCB fDict (mCons ma mNil))) := je_callTy (cr_dictT hc) does_dict hg hm boot_dict' (ja_cons ha ja_nil he) (by decide) (by decide) he hpl
/-! ### in, keys are numbers or texts -/
def hasK (k : Key) (ds : List (D × D)) : Bool := ds.any fun p => match leafK p.1 with
  | some j => decide (j = k)
  | none => false
def allLeaf (ds : List (D × D)) : Bool := ds.all fun p => (leafK p.1).isSome
theorem leafK_key (k : Key) : leafK (keyD k) = some k := by cases k <;> rfl
theorem nk_tupD {k : Nk} {a : Addr} {K : Frag} {H : Hp} (h : Dp K H (.ref a) k.data) : leafK k.data = none := by
  cases k with
  | none => rfl
  | num i => rw [NestedKey.data] at h; cases h
  | text x => rw [NestedKey.data] at h; cases h
  | tup ks => rw [NestedKey.data]; rfl
/-- as numbers and texts: a dict that the library knows by such keys, or an empty one -/
def DkV (K : Frag) (H : Hp) (a : Addr) (kvs : List (Key × V)) : Prop := H a = some (.dK kvs) ∨ (kvs = [] ∧ H a = some (DnO K a []))
theorem DkV.mono {K : Frag} {H H' : Hp} {a : Addr} {kvs : List (Key × V)} (s : Same H H') (h : DkV K H a kvs) : DkV K H' a kvs := h.imp (s _ _) fun z => ⟨z.1, s _ _ z.2⟩
theorem dkv_of {pins : List (Addr × Obj)} {σ : SS} {H : Hp} {s : Shared} {a : Addr} {kvs : List (Key × V)} (I : Inv X pins σ H s) (h : DkV (X.fg tq) H a kvs) : (a == sysModules) = false ∧ ∃ vs, KV kvs vs ∧ s.heap.DictOf (mixKind X.prog X.w) a vs := by
  rcases h with h | ⟨rfl, h⟩
  · obtain ⟨_, low, vs, r, dd⟩ := dk_of I.hok h
    exact ⟨low, vs, r, dd⟩
  · have ok : ObjOk X.prog X.w H s.heap a (DnO (X.fg tq) a []) := I.hok a _ h
    obtain ⟨⟨_, low, o, es, ep, xs, r, ho, hc, hd, he, hn⟩, _⟩ := ok
    cases r
    have ez : es = #[] := by
      rw [List.map_nil] at he
      exact Array.toList_eq_nil_iff.mp he
    subst ez
    exact ⟨low, [], .nil, o, #[], ep, ho, hc, hd, fun _ z => by simp at z, Pairs.nil, List.nodup_nil⟩
theorem dk_leaf {K : Frag} {H : Hp} {v : V} {ds : List (D × D)} (h : Dp K H v (.dict ds)) (hl : allLeaf ds = true) : ∃ a kvs, v = .ref a ∧ DkV K H a kvs ∧ DpK K H kvs ds := by
  cases h with
  | dk h t => exact ⟨_, _, rfl, .inl h, t⟩
  | dn h t =>
    cases t with
    | nil => exact ⟨_, [], rfl, .inr ⟨rfl, h⟩, .nil⟩
    | cons h1 _ _ _ =>
      unfold allLeaf at hl
      rw [List.all_cons, nk_tupD h1] at hl
      cases hl
theorem valV_has {K : Frag} {H : Hp} (k : Key) : ∀ {kvs : List (Key × V)} {ds : List (D × D)}, DpK K H kvs ds → (valV kvs k).isSome = hasK k ds
  | _, _, .nil => rfl
  | _, _, .cons (k := k') (v := v) (kvs := kvs) h t => by
    have ih := valV_has k t
    unfold hasK valV at *
    rw [List.any_cons, leafK_key, ← ih, List.find?_cons]
    simp only
    by_cases e : k' = k
    · simp [e]
    · simp [e]
def rInDk (K : Frag) (neg : Bool) : R2 := fun x y H Q => ∃ a kvs k, x = kV k ∧ y = .ref a ∧ DkV K H a kvs ∧ Q (.bl ((valV kvs k).isSome != neg)) H
theorem keyIs_kV {k : Key} {u : Value} (r : RelV (kV k) u) : keyIs k u = true := by
  cases k with
  | inl i => obtain ⟨t, rfl⟩ := r; exact keyIs_int i t
  | inr x => obtain ⟨t, rfl⟩ := r; exact keyIs_str x t
theorem relO_some {a : Option V} {b : Option Value} (h : RelO a b) : b.isSome = a.isSome := by
  cases a <;> cases b <;> first | rfl | cases h
theorem op_inDk : OpR X (compareOp .In) (rInDk (X.fg tq) false) := fun pins s σ H x y v u Q I rx ry h => by
  obtain ⟨a, kvs, k, rfl, rfl, hd, q⟩ := h
  cases ry
  obtain ⟨low, vs, r, dd⟩ := dkv_of I hd
  refine wpAny_in_of (knd := mixKind X.prog X.w) (k := k) (keyIs_kV rx) low dd.mapOf ?_
  rw [relO_some (r.val k)]
  exact ⟨.bl _, H, I.tok _, rfl, by simpa using q⟩
theorem op_notInDk : OpR X (compareOp .NotIn) (rInDk (X.fg tq) true) := fun pins s σ H x y v u Q I rx ry h => by
  obtain ⟨a, kvs, k, rfl, rfl, hd, q⟩ := h
  cases ry
  obtain ⟨low, vs, r, dd⟩ := dkv_of I hd
  refine wpAny_notIn_of (knd := mixKind X.prog X.w) (k := k) (keyIs_kV rx) low dd.mapOf ?_
  rw [relO_some (r.val k)]
  exact ⟨.bl _, H, I.tok _, rfl, by simpa using q⟩
def dInDk (neg : Bool) (a b : D) : Option D := match leafK a, b with
  | some k, .dict ds => if allLeaf ds = true then some (.bool (hasK k ds != neg)) else none
  | _, _ => none
theorem leaf_dp {K : Frag} {H : Hp} {x : V} {d : D} {k : Key} (h : Dp K H x d) (e : leafK d = some k) : x = kV k := by
  rw [leafK_d e] at h
  cases k <;> cases h <;> rfl
theorem does_inDk {K : Frag} {neg : Bool} : DoesD K (rInDk K neg) (dInDk neg) := fun F H x y a b c Q hF ha hb hf k => by
  unfold dInDk at hf
  split at hf
  · rename_i kk ds hk
    split at hf
    · rename_i hz
      cases hf
      obtain ⟨p, kvs, rfl, hp, t⟩ := dk_leaf hb hz
      refine ⟨p, kvs, kk, leaf_dp ha hk, rfl, hp.mono same_cut, ?_⟩
      rw [valV_has kk t]
      exact k _ _ (.refl _) (.bl _)
    · cases hf
  · cases hf
theorem od_inDk : OpD X tq (compareOp .In) (dInDk false) := ⟨_, op_inDk, does_inDk⟩
theorem od_notInDk : OpD X tq (compareOp .NotIn) (dInDk true) := ⟨_, op_notInDk, does_inDk⟩
end
end PB

set_option maxHeartbeats 4000000
/-! Own layer, further: sorted(a list, key=lambda y: ..), the lambda without captured names. -/
namespace PB
open PySem PySem.Spec PyProof.Rows L2
/-! ### the raw rule: J i holds before key i is asked for -/
section
open PySem.W (KeyedOut KeepsBut keyH_end SortsAt EachIs AllAlike Sortable)
variable {prog : Program} {w : World} {A : Around} {E : Value → Shared → Prop} {s : Shared} {vs : List Value} {kz : List D} {f : Value}
theorem keyJ_rest {a kS : Addr} {e1 : Nat} {P : PySem.Fin → Shared → Prop} (J : Nat → Shared → Prop) (hka : kS ≠ a) (hlen : kz.length = vs.length) (hZ : vs.length ≤ sizeLine) (hal : AllAlike kz) (hsk : Sortable kz) (hu : ∀ d, d ∈ kz → A.units + d.depth < cLine)
    (at_ : ∀ i s', J i s' → ∃ (kA : Array Value) (e : Nat), s'.heap.get? kS = some (seqObj "list" kA e) ∧ s'.heap.get? a = some (seqObj "list" #[] e1) ∧ EachIs (fun v k => ∃ as, Reads s'.heap v k as) kA.toList (kz.take i))
    (turn : ∀ (i : Nat) (v : Value) (k : D), vs[i]? = some v → kz[i]? = some k → ∀ s', J i s' →
      wpAny (model prog w) A (call f [v]) (fun u s2 => J (i + 1) { s2 with heap := s2.heap.update kS (Obj.mapSeq (·.push u)) } ∧ ∃ (kA : Array Value) (e : Nat), s2.heap.get? kS = some (seqObj "list" kA e) ∧ kA.size ≤ i) (fun _ _ => False) s')
    (j0 : J 0 s)
    (h : ∀ s' h' tk out c, J vs.length s' → (∀ b o, b ≠ a → b ≠ kS → s'.heap.get? b = some o → h'.get? b = some o) → h'.get? a = some (seqObj "list" (List.toArray out) c) → KeyedOut false kz vs out → P (.done (.ret .none)) { s' with heap := h', toks := tk }) :
    wpAny (model prog w) A (ksk_rest a f false vs.toArray e1 (.ref kS)) P E s := by
  unfold ksk_rest
  refine wpAny_bind (wpAny_rule ?_)
  first
    | rw [List.forIn_toArray]
    | (rw [← Array.forIn_toList]; simp only [List.toList_toArray])
    | rw [← Array.forIn_toList]
  refine wpAny_bind (ksk_fold J vs 0 s j0 (fun j x s' hx hJ => ?_) fun s' hJ => ?_)
  · simp only [Nat.zero_add] at hJ ⊢
    have hj : j < vs.length := (List.getElem?_eq_some_iff.mp hx).1
    obtain ⟨k, hk⟩ : ∃ k, kz[j]? = some k := ⟨_, List.getElem?_eq_getElem (by omega)⟩
    refine wpAny_bind (wpAny_attempt (wpAny_mono (turn j x k hx hk s' hJ) (fun v s2 he => ?_) fun _ _ hF => hF.elim))
    obtain ⟨hn, kA, e, nk, hs⟩ := he
    try dsimp only
    have b1 : kA.size ≤ sizeLine := by omega
    refine wpAny_bind (listUpdate_at nk rfl ?_ b1 (by rw [Array.size_push]; omega))
    exact wpAny_pure ⟨rfl, hn⟩
  · simp only [Nat.zero_add] at hJ
    obtain ⟨kA, e, nk, na, hk⟩ := at_ _ s' hJ
    rw [List.take_of_length_le (by omega)] at hk
    have hsz : kA.size = vs.length := by
      have h1 := hk.length
      rw [Array.length_toList] at h1
      omega
    try dsimp only
    refine wpAny_bind (listItems_at nk rfl ?_)
    obtain ⟨G, g1, g2⟩ := restrict s'.heap fun b => decide (b ≠ kS ∧ b ≠ a)
    have hG : ∀ b o, G.get? b = some o → s'.heap.get? b = some o ∧ b ≠ kS := fun b o z => by
      by_cases hb : b ≠ kS ∧ b ≠ a
      · rw [g1 b (decide_eq_true hb)] at z
        exact ⟨z, hb.1⟩
      · rw [g2 b (decide_eq_false hb)] at z
        cases z
    refine keyH_end (b := false) (κ := PySem.W.dataKind s'.heap kz) (h₁ := G) (fun b o _ z => (hG b o z).1) ?_ nk na hka (SortsAt.data hk hal hsk hu) hsz hZ fun h3 tk3 c k3 n3 => ?_
    · cases z : G.get? kS with
      | none => rfl
      | some o => exact absurd rfl (hG kS o z).2
    · exact h s' h3 tk3 _ c hJ (fun b o h1 h2 z => k3 b o h1 (by rw [g1 b (decide_eq_true ⟨h2, h1⟩)]; exact z)) n3 ⟨s'.heap, kA.toList, hal, rfl, hk⟩
theorem sorted_keyJ {l fa : Addr} {Q : Value → Shared → Prop} (J : Addr → Addr → Nat → Nat → Shared → Prop) (hl : s.heap.IsList l vs.toArray) (hlen : kz.length = vs.length) (hZ : vs.length ≤ sizeLine) (hal : AllAlike kz) (hsk : Sortable kz) (hu : ∀ d, d ∈ kz → A.in1.in1.units + d.depth < cLine)
    (at_ : ∀ a kS e1 i s', J a kS e1 i s' → ∃ (kA : Array Value) (e : Nat), s'.heap.get? kS = some (seqObj "list" kA e) ∧ s'.heap.get? a = some (seqObj "list" #[] e1) ∧ EachIs (fun v k => ∃ as, Reads s'.heap v k as) kA.toList (kz.take i))
    (turn : ∀ (a kS : Addr) (e1 i : Nat) (v : Value) (k : D), vs[i]? = some v → kz[i]? = some k → ∀ s', J a kS e1 i s' →
      wpAny (model prog w) A.in1.in1 (call (.ref fa) [v]) (fun u s2 => J a kS e1 (i + 1) { s2 with heap := s2.heap.update kS (Obj.mapSeq (·.push u)) } ∧ ∃ (kA : Array Value) (e : Nat), s2.heap.get? kS = some (seqObj "list" kA e) ∧ kA.size ≤ i) (fun _ _ => False) s')
    (j0 : ∀ (a kS : Addr) (e1 : Nat) (h' : Heap), s.heap.objs.size ≤ a → s.heap.objs.size ≤ kS → kS ≠ a → (∀ b o, s.heap.get? b = some o → h'.get? b = some o) → h'.get? kS = some (seqObj "list" #[] 0) → h'.get? a = some (seqObj "list" #[] e1) → J a kS e1 0 { s with heap := h' })
    (h : ∀ a kS e1 s' h' tk out c, J a kS e1 vs.length s' → (∀ b o, b ≠ a → b ≠ kS → s'.heap.get? b = some o → h'.get? b = some o) → h'.get? a = some (seqObj "list" (List.toArray out) c) → KeyedOut false kz vs out → Q (.ref a) { s' with heap := h', toks := tk }) :
    wpAny (model prog w) A (call (.builtin "sorted") [.ref l] [(Str.ofString "key", .ref fa)]) Q E s := by
  refine PySem.W.sorted_of_sort hl hZ (ksk_s1 _ _) (fun _ => ksk_l1 _ _) fun E' => ?_
  rw [ksk_t1]
  have ho := PySem.W.copyHeap_at s.heap vs
  have ha : s.heap.objs.size + 1 < (PySem.W.copyHeap s.heap vs).objs.size := Heap.lt_size ho
  obtain ⟨e1, ho1⟩ : ∃ e1, ((PySem.W.copyHeap s.heap vs).update (s.heap.objs.size + 1) (Obj.mapSeq fun _ => (#[] : Array Value))).get? (s.heap.objs.size + 1) = some (seqObj "list" #[] e1) := ⟨_, get?_update_seq ho fun _ => #[]⟩
  have sb := Heap.SameBut.update (PySem.W.copyHeap s.heap vs) (s.heap.objs.size + 1) (Obj.mapSeq fun _ => (#[] : Array Value))
  unfold ksk_tree
  refine wpAny_bind (listItems_at ho rfl ?_)
  refine wpAny_bind (listUpdate_at ho rfl ?_ (by rw [List.size_toArray]; exact hZ) (Nat.zero_le _))
  refine wpAny_bind (seqEpoch_at ho1 rfl ?_)
  refine wpAny_bind (wpAny_newTuple ?_ (by show vs.length ≤ _; exact hZ))
  refine wpAny_bind (wpAny_newList ?_ (Nat.zero_le _))
  refine wpAny_holding ?_
  refine keyJ_rest (J (s.heap.objs.size + 1) (((PySem.W.copyHeap s.heap vs).update (s.heap.objs.size + 1) (Obj.mapSeq fun _ => (#[] : Array Value))).push (seqObj "tuple" vs.toArray 0)).objs.size e1) ?_ hlen hZ hal hsk hu (at_ _ _ _) (turn _ _ _) ?_ fun s' h' tk out c hJ kp ho' ko => ⟨rfl, h _ _ _ s' h' tk out c hJ kp ho' ko⟩
  · rw [size_push', Heap.size_update]
    exact Nat.ne_of_gt (Nat.lt_succ_of_lt ha)
  · refine j0 _ _ _ _ (Nat.le_succ _) ?_ ?_ (fun b o z => ?_) (Heap.get?_push_size _ rfl) (Heap.get?_push_of_some _ (Heap.get?_push_of_some _ ho1))
    · rw [size_push', Heap.size_update]
      omega
    · rw [size_push', Heap.size_update]
      exact Nat.ne_of_gt (Nat.lt_succ_of_lt ha)
    · refine Heap.get?_push_of_some _ (Heap.get?_push_of_some _ ?_)
      rw [sb.2 b (Nat.ne_of_lt (Nat.lt_succ_of_lt (Heap.lt_size z)))]
      exact PySem.W.copyHeap_old z
end
/-! ### a lambda with one parameter is called -/
section
variable {P : Program} {w : World} {K : PySem.W.Frag} {mg : Str → Option Value} {base : Heap} {k : Nat} {f c' : Addr} {q y : Str} {params : Arguments} {body : Expr} {scope : Scope} {pm ctv : Value} {N : List Str}
theorem lam_run1 {A : Around} {outer : List Env} {s : Shared} {H : Hp} {u : Value} {v : V} {Q : VK} {E : XK} {tb : TE} (hr : Room (k + 1) A) (e0 : Env0 P w K mg base A outer s H) (of_ : s.heap.get? f = some (PySem.W.kla_obj "<lambda>" q params body scope [] pm c' ctv)) (hco : H c' = some (LamX.CodeO c' q)) (S : FnScope N [y] scope)
    (hbind : bindArgs (PySem.W.kla_fn "<lambda>" q params body scope [] pm (.ref c') ctv) ⟨[u], []⟩ = pure [(y, u)]) (r : RelV v u)
    (hb : Room k (A.deeper (envOfC q scope s.heap.objs.size f (.ref c'))) → PE (cxOf CX0 P w K mg base N q scope f (.ref c') A outer s H E).nox body tb) (ht : tb (L2.start N [v]) H Q) :
    codeAny (model P w) A (.call (.ref f) ⟨[u], []⟩) (CR CX0 outer P w H s Q E) s := by
  obtain ⟨⟨oc, vs, t, hoc, hdc, hvc⟩, _, _⟩ := (show ObjOk P w H s.heap c' (LamX.CodeO c' q) from e0.hok c' _ hco)
  have lim : s.heap.NoLimit := e0.mod.nolimit.keeps fun b o e => (e0.bs b o e).1
  have hkind : ∀ z ∈ [(y, u)], scope.names.lookup z.1 = some .local ∨ (scope.names.lookup z.1 = some .cell ∧ ((cellsFrom (s.heap.objs.size + 1) scope.names []).lookup z.1).isSome = true) := fun z hz => by
    cases List.mem_singleton.mp hz
    rcases S.par y (by simp) with g | g
    · exact .inl g
    · exact .inr ⟨g, PySem.W.cellsFrom_some _ _ _ (.inl g)⟩
  refine PySem.W.kla_callFunE hr.depth of_ rfl S.co S.gen rfl ⟨c', oc, vs, t, rfl, hoc, hdc, hvc⟩ ?_
  rw [hbind]
  refine wpAny_pure (wpAny_newFunctionEnv_cells S.kind hkind fun env he s1 x => ?_)
  subst he
  refine ⟨lim.keeps x.toInCall.keep, ?_⟩
  have I : Inv (cxOf CX0 P w K mg base N q scope f (.ref c') A outer s H E) [] (L2.start N [v]) H s1 := inv_start (ps := [y]) (us := [u]) S hr.hd e0 rfl (.cons r .nil) x
  refine PySem.W.kla_codeExpr (wpAny_mono ((hb (hr.deeper _)).nox.run [] s1 _ H Q I ht) (fun u' s' hq => ?_) fun e s' hq => hq)
  obtain ⟨w', H', J', rv, g⟩ := hq
  exact ⟨w', H', J'.os, J'.bare, J'.base, J'.hok, rv, g⟩
end
end PB

set_option maxHeartbeats 4000000
namespace PB
open PySem PySem.Spec PyProof.Rows L2
/-! ### the lambda made, no name captured; untracked objects of one's own change -/
theorem clo_nil (cells : List (Str × Addr)) : ∀ (ns : List (Str × NameKind)) (acc : List (Str × Addr)), (∀ y ∈ ns, y.2 ≠ .free) → cloFrom cells ns acc = acc
  | [], _, _ => rfl
  | (n, k) :: r, acc, h => by
    have h1 : (k == NameKind.free) = false := by
      have := h (n, k) List.mem_cons_self
      cases k <;> first | rfl | exact absurd rfl this
    unfold cloFrom
    rw [h1]
    exact clo_nil cells r acc fun y hy => h y (List.mem_cons_of_mem _ hy)
section
variable {X : Cx} {pins : List (Addr × Obj)} {σ : L2.St} {H : Hp} {s : Shared}
theorem lam_make3 {T : List (Addr × Str)} {c pt : Addr} {params : Arguments} {body : Expr} {scope : Scope} {lp : Pos} {Er : Value → Shared → Prop} {Q : Value → Shared → Prop} (I : Inv X pins σ H s) (B : LamX.TabB X.base X.mg c pt) (hc0 : X.env.code = .ref c)
    (inT : (pt, X.env.qual ++ "<lambda>") ∈ T) (one : ∀ p ∈ T, p.1 = pt → p.2 = X.env.qual ++ "<lambda>") (tb : LamX.Tabs T H) (nd : defaultsOf params X.env = ([], [])) (nf : ∀ y ∈ scope.names, y.2 ≠ .free)
    (go : ∀ (f c' : Addr) (pm ctv : Value) (H1 : Hp) (s1 : Shared), Inv X pins σ H1 s1 → ExtT H H1 → LamX.Tabs T H1 → s1.heap.get? f = some (PySem.W.kla_obj "<lambda>" (X.env.qual ++ "<lambda>") params body scope [] pm c' ctv) → H1 f = none → f ∉ frs X.stack →
      H1 c' = some (LamX.CodeO c' (X.env.qual ++ "<lambda>")) → Q (.ref f) s1) :
    wpAny (model X.prog X.w) X.A (eval (.Lambda params body scope lp) X.env) Q Er s := by
  obtain ⟨tab, hP, t3, among⟩ := tb _ inT
  have clo : closureFor scope X.env = pure [] := by
    rw [closure_ok fun y hy z => absurd z (nf y hy), clo_nil _ _ _ nf]
  have bP := B.bm.keeps I.bk
  have oP : s.heap.get? pt = some { cls := .none, data := .fields tab } := I.hok pt _ hP
  have nofr : ∀ g, s.heap.objs.size ≤ g → g ∉ frs X.stack := fun g hg z => by
    rcases List.mem_cons.mp (I.stkSub _ z) with e | e
    · exact absurd (e ▸ I.lt) (Nat.not_lt.mpr hg)
    · exact I.nofs hg e
  refine PySem.W.kla_eval nd ?_
  cases hit : codeAmong lp tab.toList with
  | some cv =>
    obtain ⟨c', rfl, hco⟩ := among lp cv hit
    refine PySem.W.kla_makeFunctionHit (mg := X.mg) (c := c) (P := pt) (ps := tab) clo I.ok.glob (I.mod.glob.keeps I.bk) hc0 (B.code.keeps I.bk) oP t3 hit bP fun ctv g tk old big => ?_
    exact go g.objs.size c' _ ctv H _ (I.kept fun b o e => Heap.get?_push_of_some _ (old b o e)) ⟨fun _ _ h _ => h, fun _ h => h⟩ tb (Heap.get?_push_size _ rfl) (I.hok.fresh big) (nofr _ big) hco
  | none =>
    refine PySem.W.kla_makeFunction (mg := X.mg) (c := c) (P := pt) (ps := tab) clo I.ok.glob (I.mod.glob.keeps I.bk) hc0 (B.code.keeps I.bk) oP t3 hit B.gP bP fun c' ctv g tk old ge lt rec_ tab' => ?_
    obtain ⟨c2, oc, fs, t, e2, h1, h2, h3⟩ := rec_
    cases e2
    have big : s.heap.objs.size ≤ g.objs.size := Nat.le_trans ge (Nat.le_of_lt lt)
    have nC : H c' = none := I.hok.fresh ge
    have J := LamX.inv_table (t' := tk) (more := #[rawInt lp.line, rawInt lp.col, .ref c']) I hP (h' := g.push (PySem.W.kla_obj "<lambda>" (X.env.qual ++ "<lambda>") params body scope [] ((X.mg "__name__").getD .none) c' ctv))
      (fun b o hb e => Heap.get?_push_of_some _ (old b o hb e)) (Heap.get?_push_of_some _ tab') ge ⟨oc, fs, t, Heap.get?_push_of_some _ h1, h2, h3⟩
    have eN : ∀ b o, H b = some o → isT o = false → upd (upd H pt (.tbl (tab ++ #[rawInt lp.line, rawInt lp.col, .ref c']))) c' (LamX.CodeO c' (X.env.qual ++ "<lambda>")) b = some o := fun b o e nt => by
      have n1 : b ≠ pt := fun z => by
        rw [z, hP] at e
        cases e
        cases nt
      rw [upd_ne (ne_of_none e nC), upd_ne n1]
      exact e
    have eH : ExtT H (upd (upd H pt (.tbl (tab ++ #[rawInt lp.line, rawInt lp.col, .ref c']))) c' (LamX.CodeO c' (X.env.qual ++ "<lambda>"))) := ⟨eN, fun b z => by
      by_cases n1 : b = c'
      · rw [n1]
        exact nC
      · rw [upd_ne n1] at z
        by_cases n2 : b = pt
        · rw [n2, upd_same] at z
          cases z
        · rwa [upd_ne n2] at z⟩
    have ntC : ∀ {x : Addr} {q : Str}, isT (LamX.CodeO x q) = false := fun {x q} => rfl
    have eL : (tab ++ #[rawInt lp.line, rawInt lp.col, .ref c']).toList = tab.toList ++ [rawInt lp.line, rawInt lp.col, .ref c'] := by simp
    refine go g.objs.size c' _ ctv _ _ J eH (fun p hp => ?_) (Heap.get?_push_size _ rfl) ?_ (nofr _ big) upd_same
    · by_cases hb : p.1 = pt
      · rw [one p hp hb, hb]
        refine ⟨_, by rw [upd_ne (ne_of_none hP nC), upd_same], ?_, fun p2 cv hcv => ?_⟩
        · rw [eL]
          exact PySem.TriplesOk_snoc _ _ _ _ t3
        · rw [eL] at hcv
          rcases LamX.among_app _ t3 hcv with z | z
          · obtain ⟨c0, e1, e2⟩ := among p2 cv z
            exact ⟨c0, e1, eN _ _ e2 ntC⟩
          · exact ⟨c', z, upd_same⟩
      · obtain ⟨ot, a1, a2, a3⟩ := tb p hp
        refine ⟨ot, by rw [upd_ne (ne_of_none a1 nC), upd_ne hb]; exact a1, a2, fun p2 cv hcv => ?_⟩
        obtain ⟨c0, e1, e2⟩ := a3 p2 cv hcv
        exact ⟨c0, e1, eN _ _ e2 ntC⟩
    · have n1 : g.objs.size ≠ c' := Nat.ne_of_gt lt
      have n2 : g.objs.size ≠ pt := Nat.ne_of_gt (Nat.lt_of_lt_of_le (Heap.lt_size oP) big)
      rw [upd_ne n1, upd_ne n2]
      exact I.hok.fresh big
theorem inv_chg {ch : List Addr} {h' : Heap} {t' : Nat} (I : Inv X pins σ H s) (F : ∀ b ∈ ch, FpOk X pins H b) (k : ∀ b o, b ∉ ch → s.heap.get? b = some o → h'.get? b = some o) : Inv X pins σ H { s with heap := h', toks := t' } := by
  refine I.call (g' := s.gens) (d' := s.drawn) (ch := ch) ⟨fun b o e _ _ nc => k b o nc e, fun b o e _ _ nc => ⟨o.slots, k b o nc e⟩, fun b o _ n _ => n, fun b o e nc => ⟨o, k b o nc e⟩, fun _ _ e => e, fun _ _ _ e => e, fun b ps e => ⟨#[], by simpa using e⟩⟩
    (fun b u e => (I.hok b u e).stay (fun d v hd q => k d v (fun hc => ?_) q) (fun _ q => q) fun _ _ q => q) I.bare fun b hb => ⟨(F b hb).2.2.2.1, (F b hb).2.1, (F b hb).2.2.2.2.1, (F b hb).2.2.2.2.2⟩
  have z := (F d hc).1
  rcases hd with w | w
  · rw [w, e] at z
    cases z
  · rw [w] at z
    cases z
theorem inv_track {a : Addr} {o : HO} (I : Inv X pins σ H s) (F : FpOk X pins H a) (new : ObjOk X.prog X.w (upd H a o) s.heap a o) : Inv X pins σ (upd H a o) s := by
  have ne : ∀ {b : Addr} {u : HO}, H b = some u → b ≠ a := fun e => ne_of_none e F.1
  have J := I.call (h' := s.heap) (t' := s.toks) (H' := upd H a o) (g' := s.gens) (d' := s.drawn) (ch := [a]) ⟨fun b o e _ _ _ => e, fun b o e _ _ _ => ⟨o.slots, e⟩, fun b o _ n nc => by rw [upd_ne (fun z => nc (by simp [z]))]; exact n, fun b o e _ => ⟨o, e⟩,
      fun b xs e => by rw [upd_ne (ne e)]; exact e, fun b o u e => by rw [upd_ne (ne e)]; exact e, fun b ps e => ⟨#[], by rw [upd_ne (ne e)]; simpa using e⟩⟩
    (fun b u e => ?_) I.bare fun b hb => by
      cases List.mem_singleton.mp hb
      exact ⟨F.2.2.2.1, F.2.1, F.2.2.2.2.1, F.2.2.2.2.2⟩
  · exact J
  · by_cases hb : b = a
    · rw [hb, upd_same] at e
      cases e
      rw [hb]
      exact new
    · rw [upd_ne hb] at e
      exact (I.hok b u e).stay (fun d v _ q => q) (fun d q => by rw [upd_ne (ne q)]; exact q) fun d xs q => by rw [upd_ne (ne q)]; exact q
end
/-! ### sorted(.., key=lambda y: ..) -/
def keyOf (n : Nat) (mb : ME) (d : D) : Option D := (mb (startE n [d])).map (·.1)
def keysM (key : D → Option D) : List D → Option (List D)
  | [] => some []
  | d :: ds => (key d).bind fun k => (keysM key ds).map (k :: ·)
theorem keysM_len {key : D → Option D} : ∀ {ds ks : List D}, keysM key ds = some ks → ks.length = ds.length
  | [], _, h => by cases h; rfl
  | d :: ds, _, h => by
    obtain ⟨k, _, h⟩ := Option.bind_eq_some_iff.mp h
    obtain ⟨r, h2, rfl⟩ := Option.map_eq_some_iff.mp h
    rw [List.length_cons, List.length_cons, keysM_len h2]
theorem keysM_get {key : D → Option D} : ∀ {ds ks : List D} {i : Nat} {d k : D}, keysM key ds = some ks → ds[i]? = some d → ks[i]? = some k → key d = some k
  | [], _, i, d, k, h, hd, _ => by simp at hd
  | x :: ds, _, i, d, k, h, hd, hk => by
    obtain ⟨k0, h1, h⟩ := Option.bind_eq_some_iff.mp h
    obtain ⟨r, h2, rfl⟩ := Option.map_eq_some_iff.mp h
    cases i with
    | zero =>
      cases hd
      cases hk
      exact h1
    | succ j => exact keysM_get h2 hd hk
def srtK (ds ks : List D) : List D := ((ds.zip ks).mergeSort (PySem.W.dataLe false (·.2))).map (·.1)
def mSortBy (a : ME) (key : D → Option D) : ML := fun e => (a e).bind fun r => match r.1 with
  | .list ds => match keysM key ds with
    | some ks => if sortOk ks = true then some (srtK ds ks, r.2) else none
    | none => none
  | _ => none
theorem rel_start {K : Frag} {G : Addr → Prop} {N : List Str} {vs : List V} {ds : List D} {H : Hp} (hG : ∀ a, G a → H a ≠ none) (hd : DpAll K (cut H G) vs ds) (hl : ds.length ≤ N.length) (ht : LamX.Tabs K.T H) :
    Rel K G (L2.start N vs) H (startE N.length ds) ∧ ∀ a, ¬ Own (L2.start N vs) (startE N.length ds) a := by
  have e0 : ∀ a, ¬ Own (L2.start N vs) (startE N.length ds) a := by
    rintro a ⟨i, b, ds', h1, _⟩
    obtain ⟨d, _, z⟩ := startE_get h1
    cases z
  have sm : Same (cut H G) (vis G (L2.start N vs) (startE N.length ds) H) := fun a o h => cut_of (fun w => w.elim (cut_mp h).1 (e0 a)) (cut_mp h).2
  have lv := dpa_len hd
  refine ⟨⟨?_, fun i d h => ?_, fun i b ds' h => ?_, fun i j b c ds' es p h => ?_, hG, ht, fun i y h => ?_⟩, e0⟩
  · unfold L2.start startE
    simp only [List.length_append, List.length_map, List.length_replicate]
    omega
  · obtain ⟨d', h1, h2⟩ := startE_get h
    cases h2
    obtain ⟨v, h3, h4⟩ := dpa_get hd h1
    exact ⟨v, start_get h3, dp_mono sm h4⟩
  · obtain ⟨d', h1, h2⟩ := startE_get h
    cases h2
  · obtain ⟨d', h1, h2⟩ := startE_get h
    cases h2
  · obtain ⟨d', h1, h2⟩ := startE_get h
    cases h2
theorem Room.inn {k : Nat} {A : Around} (r : Room (k + 1) A) : Room k A.in1.in1 := ⟨r.hd, by have := r.dp; show A.depth + 3 * k + 5 < _; omega, by have := r.un; show A.units + 1 + 1 + 16 * k + 200 < _; omega⟩
section
variable {X : Cx} {a : Expr} {ma mb : ME} {pos p lp kp : Pos} {params : Arguments} {body : Expr} {scope : Scope} {c pt : Addr} {N : List Str} {y : Str} {k : Nat}
/-- what holds while the keys are asked for -/
structure Keying (X : Cx) (tq : List (Addr × Str)) (pins : List (Addr × Obj)) (σ : L2.St) (H1 : Hp) (G : Addr → Prop) (f : Addr) (fo : Obj) (ks : List D) (a kS : Addr) (e1 i : Nat) (s : Shared) : Prop where
  ex : ∃ (H' : Hp) (zs : List V) (kA : Array Value) (e : Nat), Inv X pins σ H' s ∧ ExtT H1 H' ∧ LamX.Tabs tq H' ∧ s.heap.get? kS = some (seqObj "list" kA e) ∧ s.heap.get? a = some (seqObj "list" #[] e1) ∧ Vals zs kA.toList ∧ DpAll (X.fg tq) (cut H' G) zs (ks.take i) ∧
    s.heap.get? f = some fo ∧ H' f = none ∧ FpOk X pins H' kS ∧ FpOk X pins H' a
  nf : f ∉ frs X.stack
  nkf : f ≠ kS
  nka : kS ≠ a
theorem fp_nofr {pins : List (Addr × Obj)} {σ : L2.St} {H H' : Hp} {s : Shared} {b : Addr} (I : Inv X pins σ H s) (F : FpOk X pins H' b) : b ∉ frs X.stack := fun z => by
  rcases List.mem_cons.mp (I.stkSub _ z) with e | e
  · exact F.2.1 e
  · exact F.2.2.1 e
theorem keying_turn {pins : List (Addr × Obj)} {σ : L2.St} {H1 : Hp} {G : Addr → Prop} {f c' : Addr} {pm ctv : Value} {ks : List D} {a kS : Addr} {e1 i : Nat} {s : Shared} {x : V} {u : Value} {d kd : D} (hr : Room (k + 2) X.A) (S : FnScope N [y] scope) (hN : 1 ≤ N.length)
    (hbind : ∀ (q : Str) (pm cv ctv u : Value), bindArgs (PySem.W.kla_fn "<lambda>" q params body scope [] pm cv ctv) ⟨[u], []⟩ = pure [(y, u)])
    (hbody : ∀ (f c' : Addr) (A : Around) (outer : List Env) (s : Shared) (H : Hp) (E : XK), Room k (A.deeper (envOfC (X.env.qual ++ "<lambda>") scope s.heap.objs.size f (.ref c'))) →
      PE (cxOf CX0 X.prog X.w X.K X.mg X.base N (X.env.qual ++ "<lambda>") scope f (.ref c') A outer s H E).nox body (tOf (X.fg tq) mb))
    (hG : ∀ a, G a → H1 a ≠ none) (hco : H1 c' = some (LamX.CodeO c' (X.env.qual ++ "<lambda>"))) (hx : Dp (X.fg tq) (cut H1 G) x d) (r : RelV x u) (hk : keyOf N.length mb d = some kd) (hki : ks[i]? = some kd)
    (J : Keying X tq pins σ H1 G f (PySem.W.kla_obj "<lambda>" (X.env.qual ++ "<lambda>") params body scope [] pm c' ctv) ks a kS e1 i s) :
    wpAny (model X.prog X.w) X.A.in1.in1 (call (.ref f) [u]) (fun v s2 => Keying X tq pins σ H1 G f (PySem.W.kla_obj "<lambda>" (X.env.qual ++ "<lambda>") params body scope [] pm c' ctv) ks a kS e1 (i + 1) { s2 with heap := s2.heap.update kS (Obj.mapSeq (·.push v)) } ∧
      ∃ (kA : Array Value) (e : Nat), s2.heap.get? kS = some (seqObj "list" kA e) ∧ kA.size ≤ i) (fun _ _ => False) s := by
  obtain ⟨⟨H', zs, kA, e, I, ext, tb, nk, na, hv, hd, hf, hfn, fk, fa⟩, nf, nkf, nka⟩ := J
  obtain ⟨⟨kd', e2⟩, hm, rfl⟩ := Option.map_eq_some_iff.mp hk
  have rl := rel_start (N := N) (K := X.fg tq) (G := G) (vs := [x]) (ds := [d]) (H := H') (fun b w z => hG b w (ext.there b z)) (.cons (dp_mono (ext_cuts ext) hx) .nil) hN tb
  have rc : codeAny (model X.prog X.w) X.A.in1.in1 (.call (.ref f) ⟨[u], []⟩) (CR CX0 X.stack X.prog X.w H' s (fun v H2 => ExtT H' H2 ∧ LamX.Tabs tq H2 ∧ Dp (X.fg tq) (cut H2 G) v kd') E0) s := by
    refine lam_run1 (tb := tOf (X.fg tq) mb) (Room.inn hr) I.env0.in1.in1 hf (ext.keep _ _ hco rfl) S (hbind _ _ _ _ _) r (hbody f c' _ _ _ _ _) ⟨G, _, kd', e2, rl.1, hm, fun v H2 st r2 dp => ⟨⟨fun b o h nt => st.keep b o h (rl.2 b) nt, st.there⟩, r2.tab, dp_mono (fun b o h => cut_of (fun w => (cut_mp h).1 (.inl w)) (cut_mp h).2 (cut_nt h)) dp⟩⟩
  refine wpAny_call (codeAny_mono rc fun res s2 hq => ?_)
  cases res with
  | error e => exact (show False from hq)
  | ok fl =>
    cases fl with
    | next => exact False.elim hq
    | brk => exact False.elim hq
    | cont => exact False.elim hq
    | ret v =>
      obtain ⟨vV, H2, os, bare, un, hok, rv, x1, x2, x3⟩ := hq
      have I2 : Inv X pins σ H2 s2 := I.call' os un hok bare fun b z => absurd z (by simp)
      have fk2 : FpOk X pins H2 kS := ⟨un.free kS _ nk fk.1 (by simp), fk.2⟩
      have fa2 : FpOk X pins H2 a := ⟨un.free a _ na fa.1 (by simp), fa.2⟩
      have nk2 : s2.heap.get? kS = some (seqObj "list" kA e) := un.keep kS _ nk fk.1 (fp_nofr I fk) (by simp)
      have na2 : s2.heap.get? a = some (seqObj "list" #[] e1) := un.keep a _ na fa.1 (fp_nofr I fa) (by simp)
      have hf2 := un.keep f _ hf hfn nf (by simp)
      have s1 := Heap.SameBut.update s2.heap kS (Obj.mapSeq (·.push v))
      obtain ⟨c2, hc2⟩ : ∃ c2, (s2.heap.update kS (Obj.mapSeq (·.push v))).get? kS = some (seqObj "list" (kA.push v) c2) := ⟨_, get?_update_seq nk2 (·.push v)⟩
      have hl : kA.size = min i ks.length := by
        have h1 : zs.length = kA.size := by rw [Vals.length hv, Array.length_toList]
        have h2 : zs.length = (ks.take i).length := dpa_len hd
        rw [List.length_take] at h2
        exact h1.symm.trans h2
      refine ⟨⟨⟨H2, zs ++ [vV], kA.push v, c2, ?_, ⟨fun b o h nt => x1.keep b o (ext.keep b o h nt) nt, fun b h => ext.there b (x1.there b h)⟩, x2, hc2, ?_, ?_, ?_, ?_, un.free f _ hf hfn (by simp), fk2, fa2⟩, nf, nkf, nka⟩, kA, e, nk2, by rw [hl]; exact Nat.min_le_left _ _⟩
      · refine inv_chg (t' := s2.toks) (ch := [kS]) I2 (fun b hb => by cases List.mem_singleton.mp hb; exact fk2) fun b o nb z => ?_
        rw [s1.2 b (fun w => nb (by simp [w]))]
        exact z
      · exact (s1.2 a nka.symm).trans na2
      · rw [Array.toList_push]
        exact hv.append (.cons rv .nil)
      · have et : ks.take (i + 1) = ks.take i ++ [kd'] := by rw [List.take_add_one, hki]; rfl
        rw [et]
        exact dpa_app (dpa_mono (ext_cuts x1) hd) (.cons x3 .nil)
      · exact (s1.2 f nkf).trans hf2
end
end PB

set_option maxHeartbeats 4000000
namespace PB
open PySem PySem.Spec PyProof.Rows L2
section
variable {X : Cx} {a : Expr} {ma mb : ME} {pos p lp kp : Pos} {params : Arguments} {body : Expr} {scope : Scope} {c pt : Addr} {N : List Str} {y : Str} {k : Nat}
theorem srtK_zip (ps : List (V × D)) (ks : List D) : ((ps.zip ks).mergeSort (PySem.W.dataLe false (·.2))).map (·.1.2) = srtK (ps.map (·.2)) ks := by
  unfold srtK
  have e : (ps.map (·.2)).zip ks = (ps.zip ks).map fun z => (z.1.2, z.2) := by
    rw [List.zip_map_left]
    rfl
  rw [e, ← List.map_mergeSort (f := fun z : (V × D) × D => (z.1.2, z.2)) (r := PySem.W.dataLe false (·.2)) (s := PySem.W.dataLe false (·.2)) (fun a _ b _ => rfl), List.map_map]
  rfl
theorem jn_sortBy (hr : Room (k + 2) X.A) (hg : Gl X "sorted") (hm : X.mg "sorted" = none) (ha : PE X a (tOf (X.fg tq) ma)) (B : LamX.TabB X.base X.mg c pt) (hc0 : X.env.code = .ref c) (inT : (pt, X.env.qual ++ "<lambda>") ∈ tq) (one : ∀ p ∈ tq, p.1 = pt → p.2 = X.env.qual ++ "<lambda>")
    (nd : defaultsOf params X.env = ([], [])) (S : FnScope N [y] scope) (hN : 1 ≤ N.length) (hbind : ∀ (q : Str) (pm cv ctv u : Value), bindArgs (PySem.W.kla_fn "<lambda>" q params body scope [] pm cv ctv) ⟨[u], []⟩ = pure [(y, u)])
    (hbody : ∀ (f c' : Addr) (A : Around) (outer : List Env) (s : Shared) (H : Hp) (E : XK), Room k (A.deeper (envOfC (X.env.qual ++ "<lambda>") scope s.heap.objs.size f (.ref c'))) →
      PE (cxOf CX0 X.prog X.w X.K X.mg X.base N (X.env.qual ++ "<lambda>") scope f (.ref c') A outer s H E).nox body (tOf (X.fg tq) mb))
    (he0 : starEach [a] X.env = (false, eval a X.env) :: starEach [] X.env := by rfl) (he : backTo pos (starEach [a] X.env) = (false, eval a X.env) :: backTo pos (starEach [] X.env) := by rfl) (hpl : (backTo pos (starEach [a] X.env)).any (·.1) = false := by rfl) :
    PE X (.Call (.Name "sorted" p) [a] [⟨some "key", .Lambda params body scope lp, kp⟩] pos) (tNOf (X.fg tq) (mSortBy ma (keyOf N.length mb))) := by
  refine ⟨fun pins s σ H Q I h => ?_⟩
  obtain ⟨G, e, ds', e', rel, hmm, kQ⟩ := h
  obtain ⟨⟨d1, e1⟩, h1, hmm⟩ := Option.bind_eq_some_iff.mp hmm
  simp only at hmm
  split at hmm
  case h_2 => cases hmm
  rename_i ds
  split at hmm
  case h_2 => cases hmm
  rename_i ks hks
  split at hmm
  case isFalse => cases hmm
  rename_i hok
  cases hmm
  obtain ⟨k1, k2, k3, k4⟩ := sortOk_parts hok
  refine wpAny_Call_Name_kw (ld_blt I hg hm boot_sorted' ?_ (by decide) (by decide))
  refine PyProof.Rows.callWith_kw (thn ((pa_cons ha pa_nil he0).run pos pins s σ H (fun vs H1 => ∃ v, vs = [v] ∧ Step σ e H σ e' H1 ∧ Rel (X.fg tq) G σ H1 e' ∧ Dp (X.fg tq) (vis G σ e' H1) v (.list ds)) I ⟨G, e, _, _, rel, h1, fun v H1 st r1 dp => ⟨v, rfl, st, r1, dp⟩⟩) fun us s1 ⟨vs, H1, I1, r1, q1⟩ => ?_) he hpl rfl rfl
  obtain ⟨v, rfl, st, rl1, dp⟩ := q1
  obtain ⟨l, xs, rfl, hsq, t1⟩ := dp_list dp
  have eu := Vals.ref1 r1
  subst eu
  show wpAny _ _ (evalAll ((do let v ← eval (.Lambda params body scope lp) X.env; standAt pos; pure v) :: [])) _ _ s1
  refine wpAny_evalAll_cons (wpAny_bind (lam_make3 I1 B hc0 inT one rl1.tab nd S.nofree fun f c' pm ctv H2 s2 I2 x1 x2 hf hfn nf hco => wpAny_bind (wpAny_standAt (wpAny_pure (wpAny_evalAll_nil ?_)))))
  show wpAny _ _ (call (.builtin "sorted") [.ref l] [(Str.ofString "key", .ref f)]) _ _ s2
  -- the items
  have sm : Same (vis G σ e' H1) (cut H2 (fun b => G b ∨ Own σ e' b)) := ext_cuts x1
  have t2 := dpa_mono sm t1
  obtain ⟨ps, rfl, rfl, hd⟩ := dpa_pairs t2
  obtain ⟨its, rv, pl, hz⟩ := I2.list (same_cut.seq (sm.seq hsq))
  have kl : ks.length = ps.length := by rw [keysM_len hks, List.length_map]
  have il : its.length = ps.length := by rw [← Vals.length rv, List.length_map]
  have hZ : its.length ≤ sizeLine := by rw [il, ← kl, sizeLine_eq]; omega
  have hR : PySem.W.EachIs (fun v (z : (V × D) × D) => RelV z.1.1 v) its (ps.zip ks) := by
    refine each_of (γ := Unit) (by rw [List.length_zip, il, kl, Nat.min_self]) fun z hz => ?_
    obtain ⟨i, hi⟩ := List.mem_iff_getElem?.mp hz
    obtain ⟨h1, h2⟩ := List.getElem?_zip_eq_some.mp hi
    obtain ⟨h3, h4⟩ := List.getElem?_zip_eq_some.mp h2
    obtain ⟨u, hu, r⟩ := rv.get (i := i) (x := z.2.1.1) (by rw [List.getElem?_map, h3]; rfl)
    rw [h1] at hu
    cases hu
    exact r
  have ek : (ps.zip ks).map (·.2) = ks := List.map_snd_zip (by omega)
  refine sorted_keyJ (kz := ks) (Keying X tq pins σ H2 (fun b => G b ∨ Own σ e' b) f (PySem.W.kla_obj "<lambda>" (X.env.qual ++ "<lambda>") params body scope [] pm c' ctv) ks) pl.isList (by rw [kl, il]) hZ k1 k2 (fun d hd => ?_) (fun aa kS e2 i s' J => ?_) (fun aa kS e2 i v kd hv hkd s' J => ?_) (fun aa kS e2 h' ha hk hne old nk na => ?_) fun aa kS e2 s' h' tk out cc J kp ho ko => ?_
  · have := k3 d hd
    have := hr.un
    show X.A.units + 1 + 1 + _ < _
    omega
  · obtain ⟨⟨H', zs, kA, e, I', ext, tb, nk, na, hv, hd', _⟩, _⟩ := J
    refine ⟨kA, e, nk, na, ?_⟩
    obtain ⟨qs, rfl, eq, hq⟩ := dpa_pairs hd'
    rw [eq]
    have e3 := (PySem.W.each_mem (rel_each hv)).mono fun v b ⟨r1, hb⟩ => (show ∃ as, Reads s'.heap v b.2 as from by
      have hm : b.2 ∈ ks := List.mem_of_mem_take (by rw [eq]; exact List.mem_map.mpr ⟨b, hb, rfl⟩)
      exact rdp I' (dp_mono same_cut (hq b hb)) (noDc_alike _ (k1 _ hm _ hm)) r1)
    exact each_of (γ := Unit) (by rw [List.length_map]; exact e3.length) fun z hz => by
      obtain ⟨i, hi⟩ := List.mem_iff_getElem?.mp hz
      obtain ⟨h1, h2⟩ := List.getElem?_zip_eq_some.mp hi
      rw [List.getElem?_map] at h2
      obtain ⟨b, hb, e4⟩ := Option.map_eq_some_iff.mp h2
      rw [← e4]
      exact e3.zip (z.1, b) (List.mem_of_getElem? (i := i) (by rw [List.getElem?_zip_eq_some]; exact ⟨h1, hb⟩))
  · have hi : i < ps.length := by rw [← il]; exact (List.getElem?_eq_some_iff.mp hv).1
    have hp : ps[i]? = some ps[i] := List.getElem?_eq_getElem hi
    obtain ⟨u, hu, r⟩ := rv.get (i := i) (x := ps[i].1) (by rw [List.getElem?_map, hp]; rfl)
    rw [hv] at hu
    cases hu
    refine keying_turn hr S hN hbind hbody (fun b w z => rl1.ne0 b w (x1.there b z)) hco (hd _ (List.getElem_mem hi)) r (keysM_get hks (i := i) (by rw [List.getElem?_map, hp]; rfl) hkd) hkd J
  · refine ⟨⟨H2, [], #[], 0, I2.kept old, ⟨fun _ _ h _ => h, fun _ h => h⟩, x2, nk, na, .nil, by rw [List.take_zero]; exact .nil, old _ _ hf, hfn, I2.fpOk hk (I2.hok.fresh hk), I2.fpOk ha (I2.hok.fresh ha)⟩, nf, ?_, hne⟩
    exact Nat.ne_of_lt (Nat.lt_of_lt_of_le (Heap.lt_size hf) hk)
  · obtain ⟨⟨H', zs, kA, e, I', ext, tb, nk, na, hv, hd', hf', hfn', fk, fa⟩, _, _, _⟩ := J
    have I3 : Inv X pins σ H' { s' with heap := h', toks := tk } := inv_chg (ch := [aa, kS]) I' (fun b hb => by
      rcases List.mem_cons.mp hb with z | z
      · rw [z]; exact fa
      · rw [List.mem_singleton.mp z]; exact fk) fun b o nb z => kp b o (fun w => nb (by simp [w])) (fun w => nb (by simp [w])) z
    rw [← ek] at ko
    have eo := PySem.W.keyedOut_each (·.2) ko hR
    have hlo : out.length = ps.length := by
      rw [eo.length, List.length_mergeSort, List.length_zip, kl, Nat.min_self]
    have vo : Vals (((ps.zip ks).mergeSort (PySem.W.dataLe false (·.2))).map (·.1.1)) out := by
      have : ∀ {o : List Value} {bs : List ((V × D) × D)}, PySem.W.EachIs (fun v (z : (V × D) × D) => RelV z.1.1 v) o bs → Vals (bs.map (·.1.1)) o := fun {o bs} h => by
        induction h with
        | nil => exact .nil
        | cons h _ ih => exact .cons h ih
      exact this eo
    have I4 : Inv X pins σ (upd H' aa (.lst (((ps.zip ks).mergeSort (PySem.W.dataLe false (·.2))).map (·.1.1)))) { s' with heap := h', toks := tk } := inv_track I3 fa ⟨by rw [Vals.length vo, hlo, ← il]; exact hZ, out, cc, vo, ho⟩
    have hH2 : H2 aa = none := ext.there aa fa.1
    have st2 : Step σ e' H1 σ e' (upd H' aa (.lst (((ps.zip ks).mergeSort (PySem.W.dataLe false (·.2))).map (·.1.1)))) := (Step.growT x1).trans ((Step.growT ext).trans (.grow (same_new fa.1)))
    have rl3 : Rel (X.fg tq) G σ H' e' := (rl1.growT x1 x2).growT ext tb
    have hd2 : ∀ z ∈ (ps.zip ks).mergeSort (PySem.W.dataLe false (·.2)), Dp (X.fg tq) (vis G σ e' H') z.1.1 z.1.2 := fun z hz => by
      have hz := (List.mergeSort_perm _ _).mem_iff.mp hz
      exact dp_mono (ext_cuts ext) (hd z.1 (List.of_mem_zip hz).1)
    have dps : DpAll (X.fg tq) (vis G σ e' H') (((ps.zip ks).mergeSort (PySem.W.dataLe false (·.2))).map (·.1.1)) (((ps.zip ks).mergeSort (PySem.W.dataLe false (·.2))).map (·.1.2)) := by
      have := pairs_dpa (K := X.fg tq) (H := vis G σ e' H') (ps := ((ps.zip ks).mergeSort (PySem.W.dataLe false (·.2))).map (·.1)) fun q hq => by
        obtain ⟨z, hz, rfl⟩ := List.mem_map.mp hq
        exact hd2 z hz
      simpa only [List.map_map, Function.comp_def] using this
    rw [srtK_zip] at dps
    exact ⟨.ref aa, _, I4, rfl, kQ aa _ _ (st.trans st2) (rl3.foreign fa.1) (st.there aa (x1.there aa hH2)) upd_same (dpa_mono (vis_foreign fa.1) dps)⟩
end
end PB

set_option maxHeartbeats 4000000
/-! Own layer: a def whose code object is known (it makes lambdas). -/
namespace PB
open PySem PySem.Spec PyProof.Rows L2
section
variable {K : Frag}
theorem deck_start {N ps : List Str} {M : MS} {vs : List V} {H : Hp} {Q : VK} {E : XK} (hNl : ps.length ≤ N.length) (h : spK K ps.length (runK N.length M) vs H Q E) : tSOf K M { nx := fun _ H' => Q .non H', rt := Q } (start N vs) H := by
    obtain ⟨G, p, xs, vs', ds0, ds, ds1, r, rfl, hx, hGp, hG, hd0, hd, hl, hf, ht, q⟩ := h
    have lv := dpa_len hd
    have e1 : ∀ {i : Nat} {s : Sl}, (startK N.length ds0 ds)[i]? = some (some s) → (i = 0 ∧ s = .own true ds0) ∨ ∃ j d, i = j + 1 ∧ ds[j]? = some d ∧ s = .val d := by
      intro i s h
      cases i with
      | zero =>
        cases h
        exact .inl ⟨rfl, rfl⟩
      | succ j =>
        have h' : (startE (N.length - 1) ds)[j]? = some (some s) := h
        obtain ⟨d, h1, h2⟩ := startE_get h'
        exact .inr ⟨j, d, rfl, h1, h2⟩
    have e0 : ∀ a, Own (start N (.ref p :: vs')) (startK N.length ds0 ds) a ↔ a = p := by
      intro a
      constructor
      · rintro ⟨i, b, ds', h1, h2⟩
        rcases e1 h1 with ⟨rfl, _⟩ | ⟨j, d, _, _, z⟩
        · cases h2
          rfl
        · cases z
      · rintro rfl
        exact ⟨0, true, ds0, rfl, rfl⟩
    have sm : Same (cut H (fun a => G a ∨ a = p)) (vis G (start N (.ref p :: vs')) (startK N.length ds0 ds) H) := fun a o h => cut_of (fun w => (cut_mp h).1 (w.imp id (e0 a).mp)) (cut_mp h).2
    have rel : Rel K G (start N (.ref p :: vs')) H (startK N.length ds0 ds) := by
      refine ⟨?_, fun i d h => ?_, fun i b ds' h => ?_, fun i j b c ds' es p' h1 h2 _ _ => ?_, hG, ht, fun i y h => ?_⟩
      · unfold L2.start startK
        simp only [List.length_append, List.length_map, List.length_replicate, List.length_cons]
        omega
      · rcases e1 h with ⟨_, z⟩ | ⟨j, d', rfl, h1, h2⟩
        · cases z
        · cases h2
          obtain ⟨v, h3, h4⟩ := dpa_get hd h1
          exact ⟨v, start_get (vs := .ref p :: vs') (by rw [List.getElem?_cons_succ]; exact h3), dp_mono sm h4⟩
      · rcases e1 h with ⟨rfl, z⟩ | ⟨j, d', rfl, h1, h2⟩
        · cases z
          exact ⟨p, xs, rfl, hx, dpa_mono sm hd0, hGp⟩
        · cases h2
      · rcases e1 h1 with ⟨rfl, _⟩ | ⟨j', d', _, _, z⟩
        · rcases e1 h2 with ⟨rfl, _⟩ | ⟨j', d', _, _, z⟩
          · rfl
          · cases z
        · cases z
      · rcases e1 h with ⟨_, z⟩ | ⟨j, d', _, _, z⟩
        · cases z
        · cases z
    have fin : ∀ {v : V} {σ' : SS} {e' : Sg} {H' : Hp} {r' : Rt}, Step (start N (.ref p :: vs')) (startK N.length ds0 ds) H σ' e' H' → Rel K G σ' H' e' → e'[0]? = some (some (.own true ds1)) → RtRel K (fun a => G a ∨ Own σ' e' a) H H' v r' → r' = r → Q v H' := by
      intro v σ' e' H' r' s rr h0 q' er
      subst er
      obtain ⟨t1, ds', t2⟩ := s.par 0 ds0 rfl
      have t1' : σ'[0]? = some (some (.ref p)) := t1
      obtain ⟨p', xs', u1, u2, u3, u4⟩ := rr.own 0 true ds1 h0
      rw [t1'] at u1
      cases u1
      have ow : Own σ' e' p := ⟨0, true, ds1, h0, t1'⟩
      refine q v H' xs' (fun a o h n nt => s.keep a o h (fun w => n ((e0 a).mp w)) nt) s.there rr.tab u2 (dpa_mono ?_ u3) (q'.mono fun a w => w.imp id (fun z => by rw [z]; exact ow))
      exact fun a o h => cut_of (fun w => (cut_mp h).1 (w.imp id (fun z => by rw [z]; exact ow))) (cut_mp h).2
    unfold runK at hf
    split at hf
    · rename_i r' e' hm
      split at hf
      · rename_i ds1' h0
        cases hf
        exact ⟨G, _, _, _, rel, hm, fun v σ' H' s rr q' => fin s rr h0 q' rfl⟩
      · cases hf
    · rename_i e' hm
      split at hf
      · rename_i ds1' h0
        cases hf
        exact ⟨G, _, _, _, rel, hm, fun σ' H' s rr => fin (r' := .val .none) s rr h0 .non rfl⟩
      · cases hf
    · cases hf
end
structure FunC (K : PySem.W.Frag) (x : Str) (st : Stmt) (f : Addr) (fd : FuncData) (c : Addr) : Prop where
  ex : ∃ (oc : Value) (od : Option Addr) (kV doc pm : Value) (an : Option Addr) (ct : Value) (osl : Array (Option Value)),
    fd = PySem.W.fnOf x x (defArgs st) (defBody st) (defScope st) .none kV doc pm an (.ref c) ct ∧ K.lookup f = some ⟨oc, od, .func fd, osl⟩ ∧ PySem.W.codeIn K (.ref c) x = true
  kp : PySem.W.keepIn K (.ref f) = true
structure DefAtC (K : PySem.W.Frag) (mg : Str → Option Value) (x : Str) (st : Stmt) (c : Addr) : Prop where
  ex : ∃ f fd, FunC K x st f fd c ∧ mg x = some (.ref f)
theorem FunC.fn {K : PySem.W.Frag} {x : Str} {st : Stmt} {f : Addr} {fd : FuncData} {c : Addr} (F : FunC K x st f fd c) : Fun K x x st f fd := by
  obtain ⟨⟨oc, od, kV, doc, pm, an, ct, osl, e, l, cd⟩, kp⟩ := F
  exact ⟨⟨oc, od, kV, doc, pm, an, .ref c, ct, osl, e, l, cd⟩, kp⟩
theorem DefAtC.def {K : PySem.W.Frag} {mg : Str → Option Value} {x : Str} {st : Stmt} {c : Addr} (d : DefAtC K mg x st c) : DefAt K mg x st := by
  obtain ⟨f, fd, F, g⟩ := d.ex
  exact ⟨⟨f, fd, F.fn, g⟩⟩
section
variable {P : Program} {w : World} {K : PySem.W.Frag} {mg : Str → Option Value} {base : Heap} {x : Str} {st : Stmt} {N ps : List Str} {k : Nat} {M : MS} {c : Addr}
theorem def_deckC (d : DefAtC K mg x st c) (S : FnScope N ps (defScope st)) (hNl : ps.length ≤ N.length)
    (bd : ∀ (kV doc pm : Value) (an : Option Addr) (cdv ct : Value) (us : List Value), us.length = ps.length → bindArgs (PySem.W.fnOf x x (defArgs st) (defBody st) (defScope st) .none kV doc pm an cdv ct) ⟨us, []⟩ = pure (ps.zip us))
    (hb : ∀ (f : Addr) (A : Around) (outer : List Env) (s : Shared) (H : Hp) (E : XK), Room k (A.deeper (envOfC x (defScope st) s.heap.objs.size f (.ref c))) → PSs (cxOf CX0 P w K mg base N x (defScope st) f (.ref c) A outer s H E).nox (defBody st) (tSOf (fg K P w tq) M)) :
    DefOk P w K mg base (k + 1) x (spK (fg K P w tq) ps.length (runK N.length M)) := by
  obtain ⟨f, fd, F, g⟩ := d.ex
  refine ⟨f, fd, ps, ?_, g, F.kp, F.fn.binds bd⟩
  obtain ⟨oc, od, kV, doc, pm, an, ct, osl, rfl, l, cd⟩ := F.ex
  refine fn_of l cd S (fun vs H Q E h => ?_) fun A outer s H vs Q E hr h => ⟨_, (hb f A outer s H E hr).nox, deck_start hNl h⟩
  obtain ⟨G, p, xs, vs', ds0, ds, ds1, r, rfl, _, _, _, _, h2, h3, _⟩ := h
  rw [List.length_cons, dpa_len h2, h3]
end
/-- the table of the code object at c -/
def tabOf (K : PySem.W.Frag) (c : Addr) : Addr := match K.lookup c with
  | some ⟨_, _, .fields vs, _⟩ => match (vs[11]? : Option Value) with
    | some (.ref p) => p
    | _ => 0
  | _ => 0
end PB

set_option maxHeartbeats 4000000
/-! Own layer: < of tuples where only the first difference can be compared. -/
namespace PySem.SeqAt
open AutoSeq1 (wpAny_loadPart')
open MeetsSeq MeetsSeq2 MeetsSeq3 SeqRoads2
theorem tup_ltFirst (p q : Addr) (xs ys : Array Value) (m1 m2 : Nat) (d1 d2 : Option Addr) (l1 l2 : Array (Option Value)) (eq lt : Nat → Bool) :
    Meets (Builtin.«tuple.__lt__» ⟨[.ref p, .ref q], []⟩) (fun A R s =>
        s.heap.get? p = some { cls := .type "tuple", dict := d1, data := .seq xs m1, slots := l1 } ∧
        s.heap.get? q = some { cls := .type "tuple", dict := d2, data := .seq ys m2, slots := l2 } ∧
        (∀ i (a : i < xs.size) (c : i < ys.size), EqAt A.in1 s xs[i] ys[i] (eq i)) ∧
        (∀ i (a : i < xs.size) (c : i < ys.size), (∀ k, k < i → eq k = true) → eq i = false → RcLt A.in1 s xs[i] ys[i] (lt i)) ∧
        R (.ok (.ret (.bool (firstLt eq lt (decide (xs.size < ys.size)) (List.range (min xs.size ys.size)))))) s) :=
  .of_wp fun prog w A R s h => by
    obtain ⟨hp, g, d, tk, os⟩ := s
    obtain ⟨o1, o2, hE, hL, h⟩ := h
    have sub := AutoSeq1.sub_tuple_tuple
    have len : (xs.toList.zip ys.toList).length = min xs.size ys.size := by simp
    wp_walk using wpAny_loadPart' o1, wpAny_loadPart' o2, wpAny_forIn_list _ (fun rest b s' => b.1 = none ∧ s' = ⟨hp, g, d, tk, os⟩ ∧ ∃ i, rest = (xs.toList.zip ys.toList).drop i ∧
      (∀ k, k < i → k < min xs.size ys.size → eq k = true) ∧ R (.ok (.ret (.bool (firstLt eq lt (decide (xs.size < ys.size)) ((List.range (min xs.size ys.size)).drop i))))) ⟨hp, g, d, tk, os⟩) _
    case turn =>
      rintro ⟨y, x⟩ rest b s' ⟨nb, rfl, i, hz, all, hR⟩
      have i1 : i < (xs.toList.zip ys.toList).length := by
        rcases Nat.lt_or_ge i (xs.toList.zip ys.toList).length with z | z
        · exact z
        · rw [List.drop_of_length_le z] at hz
          cases hz
      have i2 : i < min xs.size ys.size := len ▸ i1
      have a1 : i < xs.size := by omega
      have a2 : i < ys.size := by omega
      rw [List.drop_eq_getElem_cons i1] at hz
      injection hz with hyx hrest
      have ey : y = xs[i] := by simpa using congrArg Prod.fst hyx
      have ex : x = ys[i] := by simpa using congrArg Prod.snd hyx
      subst ey ex
      have hd : (List.range (min xs.size ys.size)).drop i = i :: (List.range (min xs.size ys.size)).drop (i + 1) := by simp [List.drop_eq_getElem_cons, i2]
      rw [hd] at hR
      refine wpAny_bind (hE i a1 a2 prog w _ _ ?_)
      cases c : eq i with
      | true =>
        rw [firstLt_yes c] at hR
        wp_walk
        refine ⟨rfl, rfl, i + 1, hrest, fun k hk hk2 => ?_, hR⟩
        rcases Nat.lt_or_ge k i with z | z
        · exact all k z hk2
        · have : k = i := by omega
          rw [this]
          exact c
      | false =>
        rw [firstLt_no c] at hR
        have less := hL i a1 a2 (fun k hk => all k hk (by omega)) c prog w
        generalize PySem.richCompare CmpOp.Lt xs[i] ys[i] = rc at less ⊢
        wp_walk
        refine less _ _ ?_
        wp_walk
        exact ⟨_, rfl, hR⟩
    case fin =>
      rintro ⟨b1, b2⟩ s' ⟨nb, rfl, i, hz, all, hR⟩
      simp only at nb
      subst nb
      have ge : min xs.size ys.size ≤ i := by
        rcases Nat.lt_or_ge i (xs.toList.zip ys.toList).length with z | z
        · rw [List.drop_eq_getElem_cons z] at hz
          cases hz
        · exact len ▸ z
      rw [List.drop_of_length_le (by simpa using ge)] at hR
      wp_walk
      exact ⟨_, rfl, by simpa [Builtin.Tuple.tupleCompareSizes, firstLt] using hR⟩
    case h =>
      exact ⟨rfl, rfl, 0, rfl, fun k hk => absurd hk (Nat.not_lt_zero _), by simpa using h⟩
theorem RcLt.first {A : Around} {s : Shared} {p q : Addr} {xs ys : Array Value} {eq lt : Nat → Bool} (tp : s.heap.IsTuple p xs) (tq : s.heap.IsTuple q ys) (room : A.units < cLine)
    (hE : ∀ i (a : i < xs.size) (c : i < ys.size), EqAt A.in1 s xs[i] ys[i] (eq i))
    (hL : ∀ i (a : i < xs.size) (c : i < ys.size), (∀ k, k < i → eq k = true) → eq i = false → RcLt A.in1 s xs[i] ys[i] (lt i)) :
    RcLt A s (.ref p) (.ref q) (firstLt eq lt (decide (xs.size < ys.size)) (List.range (min xs.size ys.size))) := fun prog w E Q h => by
  obtain ⟨⟨c1, d1, t1, l1⟩, o1, e1, m1, g1⟩ := id tp
  obtain ⟨⟨c2, d2, t2, l2⟩, o2, e2, m2, g2⟩ := id tq
  simp only at e1 g1 e2 g2
  subst e1 g1 e2 g2
  refine richCompare_meets_room (op := .Lt) ⟨_, o1, rfl⟩ ⟨_, o2, rfl⟩ F.slot_tuple_lt F.entry_tuple_lt (F.args_tuple_lt_2 _ _) (tup_ltFirst p q xs ys m1 m2 d1 d2 l1 l2 eq lt) ⟨o1, o2, hE, hL, ?_⟩ room
  show Value.bool _ ≠ Value.notImplemented ∧ Q (.bool _) s
  exact ⟨(fun z => nomatch z), h⟩
end PySem.SeqAt
namespace PB
open PySem PySem.Spec PyProof.Rows L2
open PySem.SeqAt (RcLt firstLt firstLt_yes firstLt_no)
open PySem.W (alike dataLt)
/-- two leaves of one kind -/
def leafLt : D → D → Option Bool
  | .bool a, .bool b => some (dataLt (.bool a) (.bool b))
  | .int a, .int b => some (dataLt (.int a) (.int b))
  | .str a, .str b => some (dataLt (.str a) (.str b))
  | _, _ => none
/-- x < y: the first place that differs decides (n: how deep) -/
def ltN : Nat → D → D → Option Bool
  | n + 1, .tuple xs, .tuple ys => go n xs ys
  | _, x, y => leafLt x y
where go (n : Nat) : List D → List D → Option Bool
  | [], ys => some (decide (0 < ys.length))
  | _ :: _, [] => some false
  | x :: xs, y :: ys => if PyData.eqv x y = true then go n xs ys else ltN n x y
theorem rda_len {h : Heap} : ∀ {vs : List Value} {ds : List D} {as : List Addr}, ReadsAll h vs ds as → vs.length = ds.length := by
  intro vs ds as r
  induction vs generalizing ds as with
  | nil => cases r; rfl
  | cons v vs ih =>
    cases r with
    | cons a b => rw [List.length_cons, List.length_cons, ih b]
theorem reads_get {h : Heap} : ∀ {vs : List Value} {ds : List D} {as : List Addr}, ReadsAll h vs ds as → ∀ j (h1 : j < vs.length), ∃ d bs, ds[j]? = some d ∧ Reads h vs[j] d bs := by
  intro vs ds as r
  induction vs generalizing ds as with
  | nil => intro j h1; exact absurd h1 (Nat.not_lt_zero _)
  | cons v vs ih =>
    intro j h1
    cases r with
    | cons a b =>
      cases j with
      | zero => exact ⟨_, _, rfl, a⟩
      | succ j => exact ih b j (Nat.lt_of_succ_lt_succ h1)
open PySem.SeqAt (pairEq)
theorem first_map (e r : Nat → Bool) (fin : Bool) (f : Nat → Nat) : ∀ l : List Nat, firstLt e r fin (l.map f) = firstLt (fun j => e (f j)) (fun j => r (f j)) fin l
  | [] => rfl
  | j :: t => by
    rw [List.map_cons]
    unfold PySem.SeqAt.firstLt
    rw [first_map e r fin f t]
theorem go_first (n : Nat) : ∀ (xs ys : List D) (r : Bool), ltN.go n xs ys = some r → firstLt (pairEq xs ys) (fun j => (ltN n (xs.getD j .none) (ys.getD j .none)).getD false) (decide (xs.length < ys.length)) (List.range (min xs.length ys.length)) = r
  | [], ys, r, h => by
    rw [ltN.go] at h
    cases h
    simp [PySem.SeqAt.firstLt]
  | x :: xs, [], r, h => by
    rw [ltN.go] at h
    cases h
    simp [PySem.SeqAt.firstLt]
  | x :: xs, y :: ys, r, h => by
    rw [ltN.go] at h
    have e1 : min (x :: xs).length (y :: ys).length = min xs.length ys.length + 1 := by simp only [List.length_cons]; omega
    have e2 : decide ((x :: xs).length < (y :: ys).length) = decide (xs.length < ys.length) := by simp
    rw [e1, e2, List.range_succ_eq_map]
    split at h
    · rename_i q
      rw [firstLt_yes (show pairEq (x :: xs) (y :: ys) 0 = true from q), first_map]
      exact go_first n xs ys r h
    · rename_i q
      rw [firstLt_no (show pairEq (x :: xs) (y :: ys) 0 = false from Bool.eq_false_iff.mpr q)]
      show (ltN n x y).getD false = r
      rw [h]
      rfl
theorem go_at (n : Nat) : ∀ (xs ys : List D) (r : Bool), ltN.go n xs ys = some r → ∀ j, j < xs.length → j < ys.length → (∀ k, k < j → pairEq xs ys k = true) → pairEq xs ys j = false → ∃ q, ltN n (xs.getD j .none) (ys.getD j .none) = some q
  | [], _, _, _, j, h1, _, _, _ => absurd h1 (Nat.not_lt_zero _)
  | _ :: _, [], _, _, j, _, h2, _, _ => absurd h2 (Nat.not_lt_zero _)
  | x :: xs, y :: ys, r, h, j, h1, h2, ha, hj => by
    rw [ltN.go] at h
    split at h
    · rename_i q
      cases j with
      | zero =>
        have hj' : PyData.eqv x y = false := hj
        rw [hj'] at q
        cases q
      | succ j => exact go_at n xs ys r h j (Nat.lt_of_succ_lt_succ h1) (Nat.lt_of_succ_lt_succ h2) (fun k hk => ha (k + 1) (Nat.succ_lt_succ hk)) hj
    · rename_i q
      cases j with
      | zero => exact ⟨r, h⟩
      | succ j => exact absurd (ha 0 (Nat.succ_pos _)) q
theorem leaf_rc {x y : D} {r : Bool} {A : Around} {s : Shared} {a b : Value} {as bs : List Addr} (ra : Reads s.heap a x as) (rb : Reads s.heap b y bs) (h : leafLt x y = some r) (hu : A.units + x.depth < cLine) : RcLt A s a b r := by
  have hu' : A.units + min x.depth y.depth < cLine := Nat.lt_of_le_of_lt (Nat.add_le_add_left (Nat.min_le_left _ _) _) hu
  unfold leafLt at h
  split at h
  · cases h
    exact PySem.W.rcLt_alike _ _ A s a b as bs ra rb (by simp [alike]) (by simp) hu'
  · cases h
    exact PySem.W.rcLt_alike _ _ A s a b as bs ra rb (by simp [alike]) (by simp) hu'
  · cases h
    exact PySem.W.rcLt_alike _ _ A s a b as bs ra rb (by simp [alike]) (by simp) hu'
  · cases h
theorem depthAll_get : ∀ (xs : List D) (j : Nat), (xs.getD j .none).depth ≤ PyData.depthAll xs
  | [], j => by simp [PyData.depth, PyData.depthAll]
  | x :: xs, 0 => by
    show x.depth ≤ _
    rw [PyData.depthAll]
    exact Nat.le_max_left _ _
  | x :: xs, j + 1 => by
    show (xs.getD j .none).depth ≤ _
    rw [PyData.depthAll]
    exact Nat.le_trans (depthAll_get xs j) (Nat.le_max_right _ _)
theorem plainAll_get : ∀ (xs : List D) (j : Nat), PyData.plainAll xs = true → (xs.getD j .none).plain = true
  | [], j, _ => by simp [PyData.plain]
  | x :: xs, 0, h => by
    rw [PyData.plainAll, Bool.and_eq_true] at h
    exact h.1
  | x :: xs, j + 1, h => by
    rw [PyData.plainAll, Bool.and_eq_true] at h
    exact plainAll_get xs j h.2
theorem rc_ltN : ∀ (n : Nat) (x y : D) (r : Bool) (A : Around) (s : Shared) (a b : Value) (as bs : List Addr), Reads s.heap a x as → Reads s.heap b y bs → x.plain = true → y.plain = true → ltN n x y = some r → A.units + x.depth < cLine → RcLt A s a b r
  | 0, x, y, r, A, s, a, b, as, bs, ra, rb, _, _, h, hu => leaf_rc ra rb (by simpa [ltN] using h) hu
  | n + 1, .tuple xs, .tuple ys, r, A, s, a, b, as, bs, ra, rb, px, py, h, hu => by
    rw [ltN] at h
    rw [PyData.plain] at px py
    rw [PyData.depth] at hu
    cases ra with
    | @tuple l o vs m _ as₁ h1 h2 h3 h4 =>
      cases rb with
      | @tuple l' o' vs' m' _ bs₁ k1 k2 k3 k4 =>
        have n1 : vs.size = xs.length := by rw [← rda_len h4, Array.length_toList]
        have n2 : vs'.size = ys.length := by rw [← rda_len k4, Array.length_toList]
        have hin : A.in1.units + PyData.depthAll xs < cLine := by
          show A.units + 1 + _ < _
          omega
        have room : A.units < cLine := by omega
        rw [← go_first n xs ys r h, ← n1, ← n2]
        refine PySem.SeqAt.RcLt.first ⟨_, h1, h2, _, h3⟩ ⟨_, k1, k2, _, k3⟩ room (fun j j1 j2 => ?_) fun j j1 j2 ja jj => ?_
        · have := PySem.SeqAt.eqAt_plainAll xs ys A.in1 s vs.toList vs'.toList _ _ h4 k4 px py (Nat.lt_of_le_of_lt (Nat.add_le_add_left (Nat.min_le_left _ _) _) hin) j (by simpa using j1) (by simpa using j2)
          simpa using this
        · obtain ⟨q, hq⟩ := go_at n xs ys r h j (by omega) (by omega) ja jj
          have g1 := reads_get h4 j (by simpa using j1)
          have g2 := reads_get k4 j (by simpa using j2)
          obtain ⟨d1, a1, e1, r1⟩ := g1
          obtain ⟨d2, a2, e2, r2⟩ := g2
          have f1 : xs.getD j .none = d1 := by rw [List.getD_eq_getElem?_getD, e1]; rfl
          have f2 : ys.getD j .none = d2 := by rw [List.getD_eq_getElem?_getD, e2]; rfl
          have p1 := plainAll_get xs j px
          have p2 := plainAll_get ys j py
          have d3 := depthAll_get xs j
          simp only [hq, Option.getD_some]
          rw [f1] at p1 d3 hq
          rw [f2] at p2 hq
          have t := rc_ltN n d1 d2 q A.in1 s _ _ _ _ r1 r2 p1 p2 hq (by omega)
          simpa using t
  | n + 1, .tuple _, .none, _, _, _, _, _, _, _, _, _, _, _, h, _ => by simp [ltN, leafLt] at h
  | n + 1, .tuple _, .bool _, _, _, _, _, _, _, _, _, _, _, _, h, _ => by simp [ltN, leafLt] at h
  | n + 1, .tuple _, .int _, _, _, _, _, _, _, _, _, _, _, _, h, _ => by simp [ltN, leafLt] at h
  | n + 1, .tuple _, .str _, _, _, _, _, _, _, _, _, _, _, _, h, _ => by simp [ltN, leafLt] at h
  | n + 1, .tuple _, .list _, _, _, _, _, _, _, _, _, _, _, _, h, _ => by simp [ltN, leafLt] at h
  | n + 1, .tuple _, .dict _, _, _, _, _, _, _, _, _, _, _, _, h, _ => by simp [ltN, leafLt] at h
  | n + 1, .none, y, _, _, _, _, _, _, _, ra, rb, _, _, h, hu => leaf_rc ra rb (by simpa [ltN] using h) hu
  | n + 1, .bool _, y, _, _, _, _, _, _, _, ra, rb, _, _, h, hu => leaf_rc ra rb (by simpa [ltN] using h) hu
  | n + 1, .int _, y, _, _, _, _, _, _, _, ra, rb, _, _, h, hu => leaf_rc ra rb (by simpa [ltN] using h) hu
  | n + 1, .str _, y, _, _, _, _, _, _, _, ra, rb, _, _, h, hu => leaf_rc ra rb (by simpa [ltN] using h) hu
  | n + 1, .list _, y, _, _, _, _, _, _, _, ra, rb, _, _, h, hu => leaf_rc ra rb (by simpa [ltN] using h) hu
  | n + 1, .dict _, y, _, _, _, _, _, _, _, ra, rb, _, _, h, hu => leaf_rc ra rb (by simpa [ltN] using h) hu
end PB

set_option maxHeartbeats 4000000
namespace PB
open PySem PySem.Spec PyProof.Rows L2
open PySem.W (alike alikeAll dataLt dataLe)
section
variable {X : Cx}
def rLtX (K : Frag) : R2 := fun x y H Q => ∃ a b r, Dp K H x (.tuple a) ∧ Dp K H y (.tuple b) ∧ noDc (.tuple a) = true ∧ noDc (.tuple b) = true ∧ (PyData.tuple a).plain = true ∧ (PyData.tuple b).plain = true ∧ (PyData.tuple a).depth ≤ 8 ∧ ltN 8 (.tuple a) (.tuple b) = some r ∧ Q (.bl r) H
theorem op_ltX (hu : X.A.units + 64 < cLine) : OpR X (compareOp .Lt) (rLtX (X.fg tq)) := by
  intro pins s σ H x y v u Q I rx ry h
  obtain ⟨a, b, r, ha, hb, na, nb, pa, pb, dp, hl, q⟩ := h
  obtain ⟨as, r1⟩ := rdp I ha na rx
  obtain ⟨bs, r2⟩ := rdp I hb nb ry
  exact rc_ltN 8 _ _ r _ _ _ _ _ _ r1 r2 pa pb hl (by omega) _ _ _ _ ⟨.bl _, H, I, rfl, q⟩
def okX (a b : List D) : Bool := (noDc (.tuple a) && noDc (.tuple b)) && ((PyData.tuple a).plain && (PyData.tuple b).plain) && decide ((PyData.tuple a).depth ≤ 8)
def dLtU : D → D → Option D
  | .tuple a, .tuple b => if okX a b = true then (ltN 8 (.tuple a) (.tuple b)).map .bool else none
  | _, _ => none
def dLtX : D → D → Option D
  | .tuple a, .tuple b => if okX a b = true then (ltN 8 (.tuple a) (.tuple b)).map .bool else none
  | a, b => dLt a b
theorem od_ltX (hu : X.A.units + 64 < cLine) : OpD X tq (compareOp .Lt) dLtX := by
  have t : OpD X tq (compareOp .Lt) dLtU := by
    refine ⟨_, op_ltX (tq := tq) hu, fun F H x y a b c Q hF ha hb hf k => ?_⟩
    unfold dLtU at hf
    split at hf
    · split at hf
      · rename_i hs
        unfold okX at hs
        simp only [Bool.and_eq_true, decide_eq_true_eq] at hs
        obtain ⟨r, hr, rfl⟩ := Option.map_eq_some_iff.mp hf
        exact ⟨_, _, r, dp_mono same_cut ha, dp_mono same_cut hb, hs.1.1.1, hs.1.1.2, hs.1.2.1, hs.1.2.2, hs.2, hr, k _ _ (.refl _) (.bl _)⟩
      · cases hf
    · cases hf
  refine OpD.to (od_lt.or t) fun a b c h => ?_
  cases a <;> cases b <;> simp_all [dLtX, dLtU, dLt, dCmp]
/-! ### >= of tuples that are alike -/
def rGeT (K : Frag) : R2 := fun x y H Q => ∃ a b, Dp K H x (.tuple a) ∧ Dp K H y (.tuple b) ∧ noDc (.tuple a) = true ∧ noDc (.tuple b) = true ∧ alike (.tuple a) (.tuple b) = true ∧ (PyData.tuple a).depth ≤ 8 ∧ Q (.bl (!dataLt (.tuple a) (.tuple b))) H
theorem op_geT (hu : X.A.units + 64 < cLine) : OpR X (compareOp .GtE) (rGeT (X.fg tq)) := by
  intro pins s σ H x y v u Q I rx ry h
  obtain ⟨a, b, ha, hb, na, nb, al, dp, q⟩ := h
  obtain ⟨as, r1⟩ := rdp I ha na rx
  obtain ⟨bs, r2⟩ := rdp I hb nb ry
  refine W.ge_data r1 r2 al (fun z => nomatch z) ?_ ⟨.bl _, H, I, rfl, q⟩
  have := Nat.min_le_left (PyData.tuple a).depth (PyData.tuple b).depth
  omega
def dGeT : D → D → Option D
  | .tuple a, .tuple b => if (alike (.tuple a) (.tuple b) && (noDc (.tuple a) && noDc (.tuple b)) && decide ((PyData.tuple a).depth ≤ 8)) = true then some (.bool (!dataLt (.tuple a) (.tuple b))) else none
  | _, _ => none
theorem od_geT (hu : X.A.units + 64 < cLine) : OpD X tq (compareOp .GtE) dGeT := by
  refine ⟨_, op_geT (tq := tq) hu, fun F H x y a b c Q hF ha hb hf k => ?_⟩
  unfold dGeT at hf
  split at hf
  · split at hf
    · rename_i hs
      rw [Bool.and_eq_true, Bool.and_eq_true, Bool.and_eq_true, decide_eq_true_eq] at hs
      cases hf
      exact ⟨_, _, dp_mono same_cut ha, dp_mono same_cut hb, hs.1.2.1, hs.1.2.2, hs.1.1, hs.2, k _ _ (.refl _) (.bl _)⟩
    · cases hf
  · cases hf
end
end PB

set_option maxHeartbeats 4000000
/-! Own layer: x not in a list of one's own, which stays one's own; Ens rules for it and for sorted by a key. -/
namespace PB
open PySem PySem.Spec PyProof.Rows L2
section
variable {X : Cx} {a : Expr} {ma : ME} {pos : Pos}
def mNotInOwn (i : Nat) (ma : ME) : ME := fun e => (ma e).bind fun r => match r.2[i]? with
  | some (some (.own _ ds)) => (dNotIn r.1 (.list ds)).map fun z => (z, r.2)
  | _ => none
theorem notInOwn_of {i : Nat} : ∀ σ H Q, tOf (X.fg tq) (mNotInOwn i ma) σ H Q → tOp (rInA (X.fg tq) true) (tOf (X.fg tq) ma) (tVar i) σ H Q := by
  rintro σ H Q ⟨G, e, d, e', rel, hm, k⟩
  unfold mNotInOwn at hm
  obtain ⟨⟨d1, e1⟩, h1, hm⟩ := Option.bind_eq_some_iff.mp hm
  simp only at hm
  split at hm
  · rename_i bb ds hj
    obtain ⟨z, hz, hm⟩ := Option.map_eq_some_iff.mp hm
    obtain ⟨rfl, rfl⟩ := Prod.mk.inj hm
    refine ⟨G, e, d1, e1, rel, h1, fun v H1 st r1 dp => ?_⟩
    obtain ⟨q, xs, s2, hx, hd2, _⟩ := r1.own i _ _ hj
    unfold dNotIn at hz
    split at hz
    · rename_i hs
      rw [Bool.and_eq_true] at hs
      obtain ⟨ds', e5, rfl⟩ := Option.map_eq_some_iff.mp hz
      cases e5
      exact ⟨.ref q, s2, d1, .list ds, ds, dp_mono same_cut dp, Dp.lst (.of hx) (dpa_mono same_cut hd2), rfl, hs.1, hs.2, k _ _ st r1 (by simpa using Dp.bl _)⟩
    · cases hz
  · cases hm
theorem jt_notInOwn (i : Nat) {x : Str} {px : Pos} (hu : X.A.units + 65 < cLine) (ha : PE X a (tOf (X.fg tq) ma)) (hm : behindInMarks .NotIn (.Name x px) = false := by rfl) (hN : X.N[i]? = some x := by rfl) (hv : Vis X.env.scope x := by first | exact Or.inl rfl | exact Or.inr (Or.inl rfl) | exact Or.inr (Or.inr rfl))
    (hd : (x == ("__debug__" : Str)) = false := by decide) (hcd : (x == ("__classdict__" : Str)) = false := by decide) : PT X (.Compare a [.NotIn] [.Name x px] pos) (tTOf (X.fg tq) (mB (mNotInOwn i ma))) := by
  refine PT.imp (pt_cmpR (op_notInA (tq := tq) hu) ha (pe_var hN hv hd hcd) hm) fun σ H Q w => ?_
  exact notInOwn_of σ H _ (b_of σ H Q w)
end
variable {a : ME} {e : Sg} {P : D → Sg → Prop} {PL : List D → Sg → Prop}
theorem en_NotInOwn (i : Nat) {b : Bool} {ds : List D} (h : Ens a e fun d e1 => e1[i]? = some (some (.own b ds)) ∧ ∃ z, dNotIn d (.list ds) = some z ∧ P z e1) : Ens (mNotInOwn i a) e P := by
  obtain ⟨d, e1, h1, h2, z, h3, h4⟩ := h
  exact ⟨z, e1, by simp [mNotInOwn, h1, h2, h3], h4⟩
theorem en_SortBy {key : D → Option D} (h : Ens a e fun d e1 => ∃ ds ks, d = .list ds ∧ keysM key ds = some ks ∧ sortOk ks = true ∧ PL (srtK ds ks) e1) : Ens (mSortBy a key) e PL := by
  obtain ⟨d, e1, h1, ds, ks, rfl, h2, h3, h4⟩ := h
  exact ⟨_, e1, by simp [mSortBy, h1, h2, h3], h4⟩
theorem srtK_perm {ds ks : List D} (h : ks.length = ds.length) : (srtK ds ks).Perm ds := by
  unfold srtK
  refine ((List.mergeSort_perm _ _).map _).trans ?_
  rw [List.map_fst_zip (by omega)]
end PB

set_option maxHeartbeats 4000000
/-! Own layer, further: dicts whose keys are tuples (nested): made, asked, written. -/
namespace PB
open PySem PySem.Spec PyProof.Rows L2
/-- the key's tuple stands in H -/
def KyH (K : Frag) (H : Hp) (k : Nk) (b : Addr) : Prop := Dp K H (.ref b) k.data ∧ k.depth ≤ 8
def AllKy (K : Frag) (H : Hp) (kvs : List (Nk × Addr × V)) : Prop := ∀ x ∈ kvs, KyH K H x.1 x.2.1
theorem KyH.mono {K : Frag} {H H' : Hp} {k : Nk} {b : Addr} (s : Same H H') (h : KyH K H k b) : KyH K H' k b := ⟨dp_mono s h.1, h.2⟩
theorem AllKy.mono {K : Frag} {H H' : Hp} {kvs : List (Nk × Addr × V)} (s : Same H H') (h : AllKy K H kvs) : AllKy K H' kvs := fun x hx => (h x hx).mono s
def nAt (kvs : List (Nk × Addr × V)) (k : Nk) : Option V := (kvs.find? fun x => decide (x.1 = k)).map (·.2.2)
def nPut (kvs : List (Nk × Addr × V)) (k : Nk) (b : Addr) (v : V) : List (Nk × Addr × V) := if (nAt kvs k).isSome = true then kvs.map (fun x => if x.1 = k then (x.1, x.2.1, v) else x) else kvs ++ [(k, b, v)]
theorem nPut_len (kvs : List (Nk × Addr × V)) (k : Nk) (b : Addr) (v : V) : (nPut kvs k b v).length ≤ kvs.length + 1 := by
  unfold nPut
  split
  · rw [List.length_map]; omega
  · rw [List.length_append]; exact Nat.le_refl _
theorem AllKy.put {K : Frag} {H : Hp} {kvs : List (Nk × Addr × V)} {k : Nk} {b : Addr} {v : V} (h : AllKy K H kvs) (hk : KyH K H k b) : AllKy K H (nPut kvs k b v) := by
  intro x hx
  unfold nPut at hx
  split at hx
  · obtain ⟨y, hy, rfl⟩ := List.mem_map.mp hx
    have := h y hy
    split <;> exact this
  · rcases List.mem_append.mp hx with q | q
    · exact h x q
    · rw [List.mem_singleton] at q
      subst q
      exact hk
theorem kvn_at (k : Nk) : ∀ {kvs : List (Nk × Addr × V)} {xs : List (Nk × Addr × Value)}, KvN kvs xs → RelO (nAt kvs k) ((atKey xs k).map (·.2))
  | _, _, .nil => by exact True.intro
  | _, _, .cons (a := p) (b := q) (l₁ := kvs) (l₂ := xs) h t => by
    have ih := kvn_at k t
    obtain ⟨h1, h2, h3⟩ := h
    unfold nAt atKey at ih ⊢
    rw [List.find?_cons, List.find?_cons, ← h1]
    by_cases e : p.1 = k
    · simp only [e, decide_true, Option.map_some]
      exact h3
    · simp only [e, decide_false]
      exact ih
theorem kvn_map {k : Nk} {v : V} {u : Value} (r : RelV v u) : ∀ {kvs : List (Nk × Addr × V)} {xs : List (Nk × Addr × Value)}, KvN kvs xs → KvN (kvs.map fun x => if x.1 = k then (x.1, x.2.1, v) else x) (xs.map (putAt k u))
  | _, _, .nil => .nil
  | _, _, .cons (a := p) (b := q) (l₁ := kvs) (l₂ := xs) h t => by
    obtain ⟨h1, h2, h3⟩ := h
    rw [List.map_cons, List.map_cons]
    refine .cons ?_ (kvn_map r t)
    unfold putAt
    rw [← h1]
    split
    · exact ⟨rfl, h2, r⟩
    · exact ⟨h1, h2, h3⟩
theorem kvn_app {kvs : List (Nk × Addr × V)} {xs : List (Nk × Addr × Value)} {k : Nk} {b : Addr} {v : V} {u : Value} (h : KvN kvs xs) (r : RelV v u) : KvN (kvs ++ [(k, b, v)]) (xs ++ [(k, b, u)]) := by
  induction h with
  | nil => exact .cons ⟨rfl, rfl, r⟩ .nil
  | cons a _ ih => exact .cons a ih
theorem kvn_put {k : Nk} {b : Addr} {v : V} {u : Value} {kvs : List (Nk × Addr × V)} {xs : List (Nk × Addr × Value)} (h : KvN kvs xs) (r : RelV v u) : KvN (nPut kvs k b v) (storedH xs k b u) := by
  have e : (atKey xs k).isSome = (nAt kvs k).isSome := by
    have := kvn_at k h
    revert this
    cases nAt kvs k <;> cases atKey xs k <;> intro this <;> first | rfl | cases this
  unfold nPut storedH
  rw [e]
  split
  · exact kvn_map r h
  · exact kvn_app h r
theorem paired_get {α β : Type} {F : α → β → Prop} {l : List α} {m : List β} {j : Nat} {x : β} (h : Paired F l m) (hj : m[j]? = some x) : ∃ y, l[j]? = some y ∧ F y x := by
  induction h generalizing j with
  | nil => simp at hj
  | cons a _ ih =>
    cases j with
    | zero =>
      simp only [List.getElem?_cons_zero, Option.some.injEq] at hj ⊢
      subst hj
      exact ⟨_, rfl, a⟩
    | succ j =>
      rw [List.getElem?_cons_succ] at hj ⊢
      exact ih hj
section
variable {X : Cx} {pins : List (Addr × Obj)} {σ : SS} {H : Hp} {s : Shared}
theorem ky_is {k : Nk} {b : Addr} (I : Inv X pins σ H s) (h : KyH (X.fg tq) H k b) : (nestedKind X.prog X.w).is s.heap k b := by
  obtain ⟨as, r⟩ := rdp (tq := tq) (u := .ref b) I h.1 (noDc_nk k) rfl
  exact ⟨nk_reads _ _ _ _ r (data_nk k), h.2⟩
theorem dn_of {a : Addr} {kvs : List (Nk × Addr × V)} (I : Inv X pins σ H s) (h : H a = some (DnO (X.fg tq) a kvs)) (hk : AllKy (X.fg tq) H kvs) : kvs.length ≤ sizeLine ∧ (a == sysModules) = false ∧ ∃ xs, KvN kvs xs ∧ s.heap.DictOfH (nestedKind X.prog X.w) a xs := by
  have ok : ObjOk X.prog X.w H s.heap a (DnO (X.fg tq) a kvs) := I.hok a _ h
  obtain ⟨⟨hl, low, o, es, ep, xs, r, ho, hc, hd, he, hn⟩, _⟩ := ok
  refine ⟨hl, low, xs, r, o, es, ep, ho, hc, hd, he, fun x hx => ?_, hn⟩
  obtain ⟨j, hj⟩ := List.mem_iff_getElem?.mp hx
  obtain ⟨y, hy, h1, h2, _⟩ := paired_get r hj
  have := hk y (List.mem_of_getElem? hy)
  rw [h1, h2] at this
  exact ky_is I this
theorem dnO_ok {K : Frag} {P : Program} {w : World} {H' : Hp} {h' : Heap} {a : Addr} {kvs : List (Nk × Addr × V)} (d : Dn0 K h' a kvs) : ObjOk P w H' h' a (DnO K a kvs) := by
  refine ⟨d, ?_, fun h1 h2 d1 k => ?_⟩
  · obtain ⟨_, _, o, _, _, _, _, ho, _⟩ := d
    exact ⟨o, ho⟩
  · obtain ⟨hl, low, o, es, ep, xs, r, ho, z⟩ := d1
    exact ⟨hl, low, o, es, ep, xs, r, k o ho, z⟩
theorem dn0_of {a : Addr} {h' : Heap} {kvs : List (Nk × Addr × V)} {xs : List (Nk × Addr × Value)} (hl : kvs.length ≤ sizeLine) (low : (a == sysModules) = false) (r : KvN kvs xs) (d : h'.DictOfH (nestedKind X.prog X.w) a xs) : Dn0 (X.fg tq) h' a kvs := by
  obtain ⟨o, es, ep, ho, hc, hd, he, _, hn⟩ := d
  exact ⟨hl, low, o, es, ep, xs, r, ho, hc, hd, he, hn⟩
/-- {} -/
def tDNewN (K : Frag) : TE := fun σ H Q => ∀ p, H p = none → Q (.ref p) (upd H p (DnO K p []))
theorem pe_dnewN {pos : Pos} : PE X (.Dict [] [] pos) (tDNewN (X.fg tq)) := ⟨fun pins s σ H Q I h => by
  refine wpAny_Dict_empty ⟨.ref s.heap.objs.size, _, I.laid (a := s.heap.objs.size) (o := DnO (X.fg tq) s.heap.objs.size []) (t' := s.toks) (fun _ _ q => Heap.get?_push_of_some _ q) (Nat.le_refl _) (dnO_ok ?_), rfl, h _ (I.hok.fresh (Nat.le_refl _))⟩
  refine dn0_of (X := X) (xs := []) (Nat.zero_le _) ?_ .nil (Heap.DictOfH.new _)
  rw [beq_eq_false_iff_ne]
  intro z
  have := I.big
  rw [← z] at this
  exact absurd this (Nat.lt_irrefl _)⟩
/-- k in d -/
def rInN (K : Frag) (neg : Bool) : R2 := fun x y H Q => ∃ a b kvs k, x = .ref b ∧ y = .ref a ∧ KyH K H k b ∧ H a = some (DnO K a kvs) ∧ AllKy K H kvs ∧ Q (.bl ((nAt kvs k).isSome != neg)) H
theorem relO_at {kvs : List (Nk × Addr × V)} {xs : List (Nk × Addr × Value)} (r : KvN kvs xs) (k : Nk) : (atKey xs k).isSome = (nAt kvs k).isSome := by
  have := kvn_at k r
  revert this
  cases nAt kvs k <;> cases atKey xs k <;> intro this <;> first | rfl | cases this
theorem op_inN (hu : X.A.units + 64 < cLine) : OpR X (compareOp .In) (rInN (X.fg tq) false) := fun pins s σ H x y v u Q I rx ry h => by
  obtain ⟨a, b, kvs, k, rfl, rfl, hk, ha, hal, q⟩ := h
  cases rx
  cases ry
  obtain ⟨hl, low, xs, r, dd⟩ := dn_of I ha hal
  refine wpAny_in_heap (knd := nestedKind X.prog X.w) (k := k) ?_ (ky_is I hk) low dd ?_
  · show X.A.in1.units + 8 < cLine
    have : X.A.in1.units = X.A.units + 1 := rfl
    omega
  · rw [relO_at r]
    exact ⟨.bl _, H, I.tok _, rfl, by simpa using q⟩
theorem op_notInN (hu : X.A.units + 64 < cLine) : OpR X (compareOp .NotIn) (rInN (X.fg tq) true) := fun pins s σ H x y v u Q I rx ry h => by
  obtain ⟨a, b, kvs, k, rfl, rfl, hk, ha, hal, q⟩ := h
  cases rx
  cases ry
  obtain ⟨hl, low, xs, r, dd⟩ := dn_of I ha hal
  refine wpAny_notIn_heap (knd := nestedKind X.prog X.w) (k := k) ?_ (ky_is I hk) low dd ?_
  · show X.A.in1.units + 8 < cLine
    have : X.A.in1.units = X.A.units + 1 := rfl
    omega
  · rw [relO_at r]
    exact ⟨.bl _, H, I.tok _, rfl, by simpa using q⟩
end
end PB

set_option maxHeartbeats 4000000
/-! Own layer, further: a comprehension's block by its clauses, whatever it fills. -/
namespace PB
open PySem PySem.Spec PyProof.Rows L2
/-- one clause of a block: J what is walked; body what a turn does behind its tests; Z what is to hold at the end -/
def tClause (J : It) (g : TG) (tt : TT) (body : SS → Hp → (Hp → Prop) → Prop) (vs : List Nat) (σ : SS) (H0 : Hp) (Z : Hp → Prop) : Prop :=
  ∃ W : Nat → Nat → Hp → Prop, (∃ m, W 0 m H0) ∧ ∀ i m H, W i m H → (J.stop i H ∧ Z H) ∨ (J.go i H ∧ ∃ Nx : Hp → Prop, (∀ H', Nx H' → ∃ m', m' < m ∧ W (i + 1) m' H') ∧
    ∀ x H', J.yld i H x H' → g x (wipe σ vs) H' fun σ2 H2 => wipe σ2 vs = wipe σ vs ∧ tt σ2 H2 fun b H3 => if b = true then body σ2 H3 Nx else Nx H3)
abbrev BW := (Value → Shared → Prop) → Shared → (Shared → Prop) → Prop
/-- how the loop of a clause goes round -/
def Looper (prog : Program) (w : World) (A : Around) (cx : Expr) (gi : Nat) (it acc : Value) (env : Env) (tg : Expr) (ifs : List Expr) (bw : BW) : Prop :=
  ∀ (R : Result → Shared → Prop) (Iv : Nat → Shared → Prop), (∀ n s, Iv n s → wpAny (model prog w) A (pyNext it) (fun r s1 => match r with
      | none => R (.ok .next) s1
      | some v => wpAny (model prog w) A (letOwnedTupleGo tg it v) (fun _ s2 => wpAny (model prog w) A (assign tg env v) (fun _ s3 =>
          wpAny (model prog w) A (forIn ifs true fun c r => if r = true then do let ok ← isTrue c env (eval c env); pure (ForInStep.yield ok) else pure (ForInStep.yield r)) (fun ok s4 =>
            if ok = true then bw (notedBy (model prog w) A env fun e s' => R (.error e) s') s4 (fun s' => ∃ m, m < n ∧ Iv m s') else ∃ m, m < n ∧ Iv m s4)
            (notedBy (model prog w) A env fun e s' => R (.error e) s') s3) (notedBy (model prog w) A env fun e s' => R (.error e) s') s2) (notedBy (model prog w) A env fun e s' => R (.error e) s') s1) (notedBy (model prog w) A env fun e s' => R (.error e) s') s) →
    ∀ n s, Iv n s → codeAny (model prog w) A (.compLoop cx gi it acc env) R s
/-- what a turn does, by the states -/
def BodyOk (Y : Cx) (vs : List Nat) (bw : BW) (body : SS → Hp → (Hp → Prop) → Prop) : Prop :=
  ∀ (E : Value → Shared → Prop) (pins : List (Addr × Obj)) (s : Shared) (σ : SS) (H : Hp) (Nx : Hp → Prop) (P : Shared → Prop), Inv Y pins σ H s → body σ H Nx → (∀ s' (σ' : SS) H', Inv Y pins σ' H' s' → σ'.length = σ.length → (∀ (j : Nat) v, j ∉ vs → σ[j]? = some (some v) → σ'[j]? = some (some v)) → Nx H' → P s') → bw E s P
/-- the end of a loop -/
def okEnd (Y : Cx) (pins : List (Addr × Obj)) (σ : SS) (fp : List Addr) (Z : Hp → Prop) : Result → Shared → Prop := fun r s' => match r with
  | .ok _ => ∃ H', Inv Y pins σ H' s' ∧ (∀ b ∈ fp, H' b = none) ∧ Z H'
  | .error _ => False
theorem wipe2 (σ : SS) (vs : List Nat) : wipe (wipe σ vs) vs = wipe σ vs := wipe_ext (wipe_length σ vs) fun j hj => wipe_out hj
theorem blk_loop {Y : Cx} {pins : List (Addr × Obj)} {fp : List Addr} {it : Addr} {tn : Nat → Heap → Prop} {J : It} {tg cx : Expr} {ifs : List Expr} {gi : Nat} {acc : Value} {g : TG} {tt : TT} {body : SS → Hp → (Hp → Prop) → Prop} {bw : BW} {σ : SS} {vs : List Nat} {H0 : Hp} {Z : Hp → Prop} {s : Shared}
    (hc : Y.calm = true) (hx : Y.xe = fun _ _ => False) (T : Turn Y.prog Y.w Y.K tg J fp it tn) (hfp : ∀ H', (∀ b ∈ fp, H' b = none) → ∀ (σ' : SS) (s' : Shared), Inv Y pins σ' H' s' → ∀ b ∈ fp, FpOk Y pins H' b) (pg : PG Y tg g) (pt : PTs Y ifs tt) (pb : BodyOk Y vs bw body)
    (lp : Looper Y.prog Y.w Y.A cx gi (.ref it) acc Y.env tg ifs bw) (I0 : Inv Y pins (wipe σ vs) H0 s) (st0 : tn 0 s.heap) (n0 : ∀ b ∈ fp, H0 b = none) (cl : tClause J g tt body vs σ H0 Z) :
    codeAny (model Y.prog Y.w) Y.A (.compLoop cx gi (.ref it) acc Y.env) (okEnd Y pins (wipe σ vs) fp Z) s := by
  obtain ⟨W, ⟨m0, w0⟩, turn⟩ := cl
  refine lp _ (fun n s' => ∃ i H', Inv Y pins (wipe σ vs) H' s' ∧ tn i s'.heap ∧ (∀ b ∈ fp, H' b = none) ∧ W i n H') ?_ m0 s ⟨0, H0, I0, st0, n0, w0⟩
  rintro n s5 ⟨i, H5, I5, st5, n5, w5⟩
  have pgr := pg.run
  have ptr := pt.run
  rw [hx] at pgr ptr
  rcases turn i n H5 w5 with ⟨stop, qq⟩ | ⟨go, Nx, hNx, step⟩
  · refine thnF (T.done Y rfl rfl rfl hc i pins s5 _ H5 (fun _ _ => False) I5 (hfp H5 n5 _ _ I5) st5 stop) fun r s6 hr6 => ?_
    obtain ⟨hr, I6⟩ := hr6
    subst hr
    exact ⟨H5, I6, n5, qq⟩
  · refine thnF (T.item Y rfl rfl rfl hc i pins s5 _ H5 (fun _ _ => False) I5 (hfp H5 n5 _ _ I5) st5 go) fun r s6 hr6 => ?_
    obtain ⟨u, hr, h6⟩ := hr6
    subst hr
    refine thnF h6 fun _ s7 h7 => ?_
    obtain ⟨x, H7, I7, r7, y7, st7, n7⟩ := h7
    have I7p := I7.pinned (hfp H7 n7 _ _ I7) (T.obj _ _ st7)
    refine thnF (pgr _ s7 _ H7 x u _ I7p r7 (step x H7 y7)) fun _ s8 h8 => ?_
    obtain ⟨σ8, H8, I8, hw8, q8⟩ := h8
    refine thnF (ptr _ s8 σ8 H8 _ I8 q8) fun b s9 h9 => ?_
    obtain ⟨H9, I9, q9⟩ := h9
    have l8 : (wipe σ vs).length = σ8.length := by rw [← hw8, wipe_length]
    have k8 : ∀ (j : Nat) v, (wipe σ vs)[j]? = some (some v) → σ8[j]? = some (some v) ∧ j ∉ vs := fun j v e => by
      rw [← hw8] at e
      exact wipe_some e
    have fin : ∀ {σ9 : SS} {s' : Shared} {H' : Hp}, Inv Y (pins ++ pinsAt fp s7.heap) σ9 H' s' → σ9.length = σ8.length → (∀ (j : Nat) v, j ∉ vs → σ8[j]? = some (some v) → σ9[j]? = some (some v)) → Nx H' →
        ∃ m, m < n ∧ ∃ i H', Inv Y pins (wipe σ vs) H' s' ∧ tn i s'.heap ∧ (∀ b ∈ fp, H' b = none) ∧ W i m H' := fun {σ9 s' H'} I' hl hk nx => by
      obtain ⟨m', hm, w'⟩ := hNx H' nx
      have still : ∀ b ∈ fp, ∀ o, s7.heap.get? b = some o → s'.heap.get? b = some o ∧ H' b = none := fun b hb o e => by
        have z := I'.pin (b, o) (List.mem_append_right _ (List.mem_append_right _ (mem_pinsAt hb e)))
        exact ⟨z.1, z.2.1⟩
      refine ⟨m', hm, i + 1, H', I'.unpinned.weak (l8.trans hl.symm) (fun j v e => hk j v (k8 j v e).2 (k8 j v e).1), T.keep _ _ _ st7 fun b hb o e => (still b hb o e).1, fun b hb => ?_, w'⟩
      obtain ⟨o, e, _⟩ := T.obj _ _ st7 b hb
      exact (still b hb o e).2
    cases b with
    | false =>
      rw [if_neg Bool.false_ne_true] at q9 ⊢
      exact fin I9 rfl (fun _ _ _ z => z) q9
    | true =>
      rw [if_pos rfl] at q9 ⊢
      exact pb _ _ s9 σ8 H9 Nx _ I9 q9 fun s' σ' H' I' hl hk nx => fin I' hl hk nx
section
variable {X : Cx}
/-- a whole comprehension: O0 what the new thing is -/
def tComp (wi : TI) (O0 : Addr → HO) (tc : It → Addr → SS → Hp → (Hp → Prop) → Prop) : TE := fun σ H Q => wi σ H fun J H1 => ∀ Dn, H1 Dn = none → tc J Dn σ (upd H1 Dn (O0 Dn)) fun H' => Q (.ref Dn) H'
structure Starts (prog : Program) (w : World) (A : Around) (cx : Expr) : Prop where
  st : ∀ (it acc : Value) (env : Env) (R : Result → Shared → Prop) (s : Shared), codeAny (model prog w) A (.compLoop cx 0 it acc env) R s →
    wpAny (model prog w) A (pyIter it) (fun it' s' => codeAny (model prog w) A (.compLoop cx 0 it' acc env) R s') (notedBy (model prog w) A env fun x s' => R (.error x) s') s → codeAny (model prog w) A (.compStart cx 0 it acc env) R s
theorem comp_core {pins : List (Addr × Obj)} {s : Shared} {σ : SS} {H : Hp} {Q : VK} {cx tg iter : Expr} {ifs : List Expr} {gs : List Comprehension} {scope : Scope} {own : List (Str × Nat)} {pos : Pos} {wi : TI} {newC : Sem Value} {ob : Obj} {O0 : Addr → HO} {tc : It → Addr → SS → Hp → (Hp → Prop) → Prop}
    (hcl : clausesOf cx = ⟨tg, iter, ifs, 0⟩ :: gs) (sta : Starts X.prog X.w X.A cx) (hnew : ∀ (s : Shared) (Q : Value → Shared → Prop), Q (.ref s.heap.objs.size) { s with heap := s.heap.push ob } → wpAny (model X.prog X.w) X.A newC Q X.xe s)
    (hob : ∀ (h : Heap) (H' : Hp), sysModules < h.objs.size → ObjOk X.prog X.w H' (h.push ob) h.objs.size (O0 h.objs.size)) (hfr : ∀ h : Heap, ∀ b o, h.get? b = some o → (h.push ob).get? b = some o) (hsz : ∀ h : Heap, (h.push ob).objs.size = h.objs.size + 1)
    (hN : X.N.Nodup) (I : Inv X pins σ H s) (hi : PI X tg iter wi) (ok : BlkOk X.N X.env.scope scope own) (hs : ∀ x, foldedSetIterable iter X.env x = pure x)
    (loop : ∀ (s3 s4 : Shared) (H3 : Hp) (C it Dn : Addr) (cl : List (Str × Addr)) (fp : List Addr) (tn : Nat → Heap → Prop) (J : It) (Z : Hp → Prop), Turn X.prog X.w X.K tg J fp it tn → Inv (X.blk s3 H3 scope (compEnvC scope cl C X.env) fp) [] (wipe σ (own.map (·.2))) H3 s4 → tn 0 s4.heap → (∀ b ∈ fp, H3 b = none) → tc J Dn σ H3 Z →
      codeAny (model X.prog X.w) X.A (.compLoop cx 0 (.ref it) (.ref Dn) (compEnvC scope cl C X.env)) (okEnd (X.blk s3 H3 scope (compEnvC scope cl C X.env) fp) [] (wipe σ (own.map (·.2))) fp Z) s4)
    (h : tComp wi O0 tc σ H Q) : wpAny (model X.prog X.w) X.A (comprehension cx scope X.env pos newC false (eval iter X.env) none) (EP X pins σ Q) X.xe s := by
  have hfree : ∀ y ∈ scope.names, y.2 = .free → ∃ c, X.env.cells.lookup y.1 = some c := fun y hy e => (ok.free y hy e).elim (fun k => I.ok.has _ (.inl k)) fun k => I.ok.has _ (.inr k)
  refine wpAny_comprehension_free (use := none) hcl hs (closure_ok hfree) ok.kind (fun y hy e => by rw [ok.uniq y hy, e]) ?_
  refine thn (hi.run pins s σ H _ I h) fun xv s1 h1 => thn h1 fun itv s2 h2 => ?_
  obtain ⟨it, fp, tn, J, H2, e, I2, T, st2, f2, q⟩ := h2
  subst e
  refine hnew s2 _ (newEnv_comp ?_)
  have hDn : H2 s2.heap.objs.size = none := I2.hok.fresh (Nat.le_refl _)
  have q3 := q s2.heap.objs.size hDn
  generalize hs3 : ({ s2 with heap := s2.heap.push ob } : Shared) = s3
  have eh : s3.heap = s2.heap.push ob := by rw [← hs3]
  have I3 : Inv X pins σ (upd H2 s2.heap.objs.size (O0 s2.heap.objs.size)) s3 := by
    rw [← hs3]
    exact I2.laid (t' := s2.toks) (hfr s2.heap) (Nat.le_refl _) (hob s2.heap _ I2.big)
  have f3 : ∀ b ∈ fp, FpOk X pins (upd H2 s2.heap.objs.size (O0 s2.heap.objs.size)) b ∧ b < s3.heap.objs.size := fun b hb => by
    obtain ⟨o, e, _⟩ := T.obj _ _ st2 b hb
    have lt : b < s2.heap.objs.size := Heap.lt_size e
    refine ⟨⟨?_, (f2 b hb).2⟩, by rw [eh, hsz]; exact Nat.lt_succ_of_lt lt⟩
    rw [upd_ne (Nat.ne_of_lt lt)]
    exact (f2 b hb).1
  have st3 : tn 0 s3.heap := T.keep _ _ _ st2 fun b _ o e => by rw [eh]; exact hfr _ _ _ e
  have I4 := block_start I3 ok hN f3
  have st4 : tn 0 (pushCells (s3.heap.push { cls := .type "dict", data := .dict #[] }) scope.names) := T.keep _ _ _ st3 fun b _ o e => pushCells_keeps _ _ _ _ (Heap.get?_push_of_some _ e)
  have lp := loop s3 _ _ s3.heap.objs.size it s2.heap.objs.size (cellsFrom (s3.heap.objs.size + 1) scope.names (cloFrom X.env.cells scope.names [])) fp tn J _ T I4 st4 (fun b hb => (f3 b hb).1.1) q3
  have lp2 : codeAny (model X.prog X.w) X.A (.compLoop cx 0 (.ref it) (.ref s2.heap.objs.size) (compEnvC scope (cellsFrom (s3.heap.objs.size + 1) scope.names (cloFrom X.env.cells scope.names [])) s3.heap.objs.size X.env)) (compPost (model X.prog X.w) X.A X.xe none (EP X pins σ Q) (.ref s2.heap.objs.size) s3.heap.objs.size)
      { s3 with heap := pushCells (s3.heap.push { cls := .type "dict", data := .dict #[] }) scope.names } := by
    refine codeAny_mono lp fun r s6 hr => ?_
    cases r with
    | error e => exact hr.elim
    | ok fl =>
      obtain ⟨H5, I6, n5, qq⟩ := hr
      have I7 : Inv X pins σ H5 s6 := I3.call' (ch := fp) I6.os I6.base I6.hok I6.bare fun b hb => ⟨(f3 b hb).1.2.2.2.1, (f3 b hb).1.2.1, (f3 b hb).1.2.2.2.2.1, (f3 b hb).1.2.2.2.2.2⟩
      have nC : H5 s3.heap.objs.size = none := I6.free
      obtain ⟨m, hn, _⟩ := I6.loc
      obtain ⟨p0, p1, p2, p3, p4, p5⟩ := I3.fpOk (H' := H5) (Nat.le_refl _) nC
      exact ⟨m, hn, fun h'' sb => ⟨.ref _, H5, I7.turned (t' := s6.toks) (fun b o hb e => (sb.2 b hb).trans e) p0 p1 p3 p4 p5, rfl, qq⟩⟩
  exact sta.st _ _ _ _ _ lp2 (T.self X.A 0 _ _ _ st4 lp2)
end
end PB

set_option maxHeartbeats 4000000
/-! Own layer, further: dicts with tuple keys as data; dict comprehensions. -/
namespace PB
open PySem PySem.Spec PyProof.Rows L2
theorem dn_ne_code {K : Frag} {a : Addr} {kvs : List (Nk × Addr × V)} {q : Str} : DnO K a kvs ≠ LamX.CodeO a q := by
  intro e
  unfold DnO LamX.CodeO at e
  have e' := HO.ext.inj e
  have ob : Obj := ⟨.none, none, .fields #[.none, .str q 0], #[]⟩
  have hg : ({ objs := Array.replicate (a + 1) (⟨.none, none, .fields #[.none, .str q 0], #[]⟩ : Obj) } : Heap).get? a = some ⟨.none, none, .fields #[.none, .str q 0], #[]⟩ := by
    unfold Heap.get?
    simp
  have c := congrFun e' ({ objs := Array.replicate (a + 1) (⟨.none, none, .fields #[.none, .str q 0], #[]⟩ : Obj) } : Heap)
  have c2 : Dn0 K ({ objs := Array.replicate (a + 1) (⟨.none, none, .fields #[.none, .str q 0], #[]⟩ : Obj) } : Heap) a kvs := by
    rw [c]
    exact ⟨_, _, _, hg, rfl, rfl⟩
  obtain ⟨_, _, o, es, ep, xs, _, ho, _, hd, _⟩ := c2
  rw [hg] at ho
  cases ho
  cases hd
theorem tabs_ext {T : List (Addr × Str)} {H : Hp} {p : Addr} {o0 o : HO} (t : LamX.Tabs T H) (h : H p = some o0) (nt : isT o0 = false) (nc : ∀ q, o0 ≠ LamX.CodeO p q) : LamX.Tabs T (upd H p o) := fun q hq => by
  obtain ⟨ps, h1, h2, h3⟩ := t q hq
  have n1 : q.1 ≠ p := fun z => by rw [z, h] at h1; cases h1; cases nt
  refine ⟨ps, by rw [upd_ne n1]; exact h1, h2, fun pos cv hc => ?_⟩
  obtain ⟨c, e1, e2⟩ := h3 pos cv hc
  have n2 : c ≠ p := fun z => by
    rw [z, h] at e2
    exact nc _ (Option.some.inj e2)
  exact ⟨c, e1, by rw [upd_ne n2]; exact e2⟩
/-- a foreign object changes -/
theorem Rel.other2 {K : Frag} {G : Addr → Prop} {σ : SS} {H : Hp} {e : Sg} {Dl : Addr} {o o0 : HO} (r : Rel K G σ H e) (hG : G Dl) (hl : H Dl = some o0) (nt : isT o0 = false) (nc : ∀ q, o0 ≠ LamX.CodeO Dl q) : Rel K G σ (upd H Dl o) e := by
  have sm : Same (vis G σ e H) (vis G σ e (upd H Dl o)) := vis_other hG
  refine ⟨r.len, fun i d h => ?_, fun i b ds h => ?_, r.sep, fun a h => ?_, tabs_ext r.tab hl nt nc, r.fnr⟩
  · obtain ⟨v, h1, h2⟩ := r.val i d h
    exact ⟨v, h1, dp_mono sm h2⟩
  · obtain ⟨p, xs, h1, h2, h3, h4⟩ := r.own i b ds h
    have hne : p ≠ Dl := fun q => h4 (by rw [q]; exact hG)
    exact ⟨p, xs, h1, by rw [upd_ne hne]; exact h2, dpa_mono sm h3, h4⟩
  · by_cases hne : a = Dl
    · rw [hne, upd_same]
      exact fun z => nomatch z
    · rw [upd_ne hne]
      exact r.frn a h
/-! ### as data -/
def tkOf (d : D) : Option Nk := match nkOf d with
  | some (.tup ks) => if (NestedKey.tup ks).depth ≤ 8 then some (.tup ks) else none
  | _ => none
mutual
theorem nkOf_data : ∀ {d : D} {k : Nk}, nkOf d = some k → d = k.data
  | .none, k, h => by simp only [nkOf, Option.some.injEq] at h; subst h; simp [NestedKey.data]
  | .int _, k, h => by simp only [nkOf, Option.some.injEq] at h; subst h; simp [NestedKey.data]
  | .str _, k, h => by simp only [nkOf, Option.some.injEq] at h; subst h; simp [NestedKey.data]
  | .tuple ds, k, h => by
    rw [nkOf, Option.map_eq_some_iff] at h
    obtain ⟨ks, h1, rfl⟩ := h
    rw [NestedKey.data, ← nksOf_data h1]
  | .bool _, k, h => by simp [nkOf] at h
  | .list _, k, h => by simp [nkOf] at h
  | .dict _, k, h => by simp [nkOf] at h
theorem nksOf_data : ∀ {ds : List D} {ks : List Nk}, nksOf ds = some ks → ds = NestedKey.datas ks
  | [], ks, h => by simp only [nksOf, Option.some.injEq] at h; subst h; simp [NestedKey.datas]
  | d :: ds, ks, h => by
    rw [nksOf, Option.bind_eq_some_iff] at h
    obtain ⟨k, h1, h⟩ := h
    rw [Option.map_eq_some_iff] at h
    obtain ⟨ks', h2, rfl⟩ := h
    rw [NestedKey.datas, ← nkOf_data h1, ← nksOf_data h2]
end
theorem tkOf_some {d : D} {k : Nk} (h : tkOf d = some k) : d = k.data ∧ k.depth ≤ 8 ∧ ∃ ks, k = .tup ks := by
  unfold tkOf at h
  split at h
  · rename_i ks e
    split at h
    · rename_i hd
      cases h
      exact ⟨nkOf_data e, hd, _, rfl⟩
    · cases h
  · cases h
theorem ky_of {K : Frag} {H : Hp} {v : V} {d : D} {k : Nk} (h : Dp K H v d) (e : tkOf d = some k) : ∃ b, v = .ref b ∧ KyH K H k b := by
  obtain ⟨rfl, hd, ks, rfl⟩ := tkOf_some e
  have h' := h
  rw [NestedKey.data] at h'
  obtain ⟨a, xs, rfl, _, _⟩ := dp_tup h'
  exact ⟨a, rfl, h, hd⟩
def atN (ds : List (Nk × D)) (k : Nk) : Option D := (ds.find? fun x => decide (x.1 = k)).map (·.2)
def putN (ds : List (Nk × D)) (k : Nk) (d : D) : List (Nk × D) := if (atN ds k).isSome = true then ds.map (fun x => if x.1 = k then (x.1, d) else x) else ds ++ [(k, d)]
def mergeN (acc more : List (Nk × D)) : List (Nk × D) := more.foldl (fun a p => putN a p.1 p.2) acc
def outN (l : List (Nk × D)) : List (D × D) := l.map fun p => (p.1.data, p.2)
inductive DnL (K : Frag) (H : Hp) : List (Nk × Addr × V) → List (Nk × D) → Prop
  | nil : DnL K H [] []
  | cons {k : Nk} {b : Addr} {v : V} {d : D} {kvs : List (Nk × Addr × V)} {ds : List (Nk × D)} : KyH K H k b → Dp K H v d → DnL K H kvs ds → DnL K H ((k, b, v) :: kvs) ((k, d) :: ds)
theorem DnL.mono {K : Frag} {H H' : Hp} (s : Same H H') : ∀ {a : List (Nk × Addr × V)} {c : List (Nk × D)}, DnL K H a c → DnL K H' a c
  | _, _, .nil => .nil
  | _, _, .cons h1 h2 t => .cons (h1.mono s) (dp_mono s h2) (t.mono s)
theorem DnL.out {K : Frag} {H : Hp} : ∀ {a : List (Nk × Addr × V)} {c : List (Nk × D)}, DnL K H a c → DpN K H a (outN c)
  | _, _, .nil => .nil
  | _, _, .cons h1 h2 t => .cons h1.1 h1.2 h2 t.out
theorem DnL.keys {K : Frag} {H : Hp} : ∀ {a : List (Nk × Addr × V)} {c : List (Nk × D)}, DnL K H a c → AllKy K H a
  | _, _, .nil => fun x hx => by cases hx
  | _, _, .cons h1 h2 t => fun x hx => by
    rcases List.mem_cons.mp hx with q | q
    · subst q; exact h1
    · exact t.keys x q
theorem DnL.len {K : Frag} {H : Hp} : ∀ {a : List (Nk × Addr × V)} {c : List (Nk × D)}, DnL K H a c → a.length = c.length
  | _, _, .nil => rfl
  | _, _, .cons h1 h2 t => by rw [List.length_cons, List.length_cons, t.len]
theorem DnL.at {K : Frag} {H : Hp} (k : Nk) : ∀ {a : List (Nk × Addr × V)} {c : List (Nk × D)}, DnL K H a c → (nAt a k = none ∧ atN c k = none) ∨ ∃ v d, nAt a k = some v ∧ atN c k = some d ∧ Dp K H v d
  | _, _, .nil => .inl ⟨rfl, rfl⟩
  | _, _, .cons (k := k') h1 h2 t => by
    unfold nAt atN
    rw [List.find?_cons, List.find?_cons]
    by_cases e : k' = k
    · simp only [e, decide_true, Option.map_some]
      exact .inr ⟨_, _, rfl, rfl, h2⟩
    · simp only [e, decide_false]
      exact t.at k
theorem DnL.at_some {K : Frag} {H : Hp} {k : Nk} {a : List (Nk × Addr × V)} {c : List (Nk × D)} (h : DnL K H a c) : (nAt a k).isSome = (atN c k).isSome := by
  rcases h.at k with ⟨e1, e2⟩ | ⟨v, d, e1, e2, _⟩ <;> rw [e1, e2] <;> rfl
theorem DnL.map {K : Frag} {H : Hp} {k : Nk} {v : V} {d : D} (hv : Dp K H v d) : ∀ {a : List (Nk × Addr × V)} {c : List (Nk × D)}, DnL K H a c → DnL K H (a.map fun x => if x.1 = k then (x.1, x.2.1, v) else x) (c.map fun x => if x.1 = k then (x.1, d) else x)
  | _, _, .nil => .nil
  | _, _, .cons (k := k') h1 h2 t => by
    rw [List.map_cons, List.map_cons]
    by_cases e : k' = k
    · rw [if_pos e, if_pos e]; exact .cons h1 hv (t.map hv)
    · rw [if_neg e, if_neg e]; exact .cons h1 h2 (t.map hv)
theorem DnL.app {K : Frag} {H : Hp} : ∀ {a b : List (Nk × Addr × V)} {c d : List (Nk × D)}, DnL K H a c → DnL K H b d → DnL K H (a ++ b) (c ++ d)
  | _, _, _, _, .nil, h => h
  | _, _, _, _, .cons h1 h2 t, u => .cons h1 h2 (t.app u)
theorem DnL.put {K : Frag} {H : Hp} {k : Nk} {b : Addr} {v : V} {d : D} {a : List (Nk × Addr × V)} {c : List (Nk × D)} (h : DnL K H a c) (hk : KyH K H k b) (hv : Dp K H v d) : DnL K H (nPut a k b v) (putN c k d) := by
  unfold nPut putN
  rw [h.at_some]
  split
  · exact h.map hv
  · exact h.app (.cons hk hv .nil)
theorem putN_len (c : List (Nk × D)) (k : Nk) (d : D) : (putN c k d).length ≤ c.length + 1 := by
  unfold putN
  split
  · rw [List.length_map]; omega
  · rw [List.length_append]; exact Nat.le_refl _
theorem mergeN_len : ∀ (m c : List (Nk × D)), (mergeN c m).length ≤ c.length + m.length
  | [], c => Nat.le_refl _
  | p :: m, c => by
    have h1 := mergeN_len m (putN c p.1 p.2)
    have h2 := putN_len c p.1 p.2
    have e : mergeN c (p :: m) = mergeN (putN c p.1 p.2) m := rfl
    rw [e, List.length_cons]
    omega
theorem mergeN_snoc (c m : List (Nk × D)) (k : Nk) (d : D) : mergeN c (m ++ [(k, d)]) = putN (mergeN c m) k d := by
  unfold mergeN
  rw [List.foldl_append]
  rfl
/-- the keys of a dict, where all are tuples -/
def keysN : List (D × D) → Option (List (Nk × D))
  | [] => some []
  | (k, v) :: r => (tkOf k).bind fun k' => (keysN r).map ((k', v) :: ·)
/-- a dict by its tuple keys: one that stands so, or an empty one -/
def DnV (K : Frag) (H : Hp) (a : Addr) (kvs : List (Nk × Addr × V)) : Prop := H a = some (DnO K a kvs) ∨ (kvs = [] ∧ H a = some (.dK []))
theorem DnV.mono {K : Frag} {H H' : Hp} {a : Addr} {kvs : List (Nk × Addr × V)} (s : Same H H') (h : DnV K H a kvs) : DnV K H' a kvs := h.imp (s _ _) fun z => ⟨z.1, s _ _ z.2⟩
theorem tk_leaf {k : Key} : tkOf (keyD k) = none := by cases k <;> rfl
theorem dnl_of {K : Frag} {H : Hp} : ∀ {kvs : List (Nk × Addr × V)} {ds : List (D × D)} {nd : List (Nk × D)}, DpN K H kvs ds → keysN ds = some nd → DnL K H kvs nd
  | _, _, _, .nil, h => by cases h; exact .nil
  | _, _, _, .cons (k := k) h1 z h2 t, h => by
    unfold keysN at h
    obtain ⟨k', e1, h⟩ := Option.bind_eq_some_iff.mp h
    obtain ⟨r, e2, h⟩ := Option.map_eq_some_iff.mp h
    subst h
    have := data_inj (tkOf_some e1).1
    subst this
    exact .cons ⟨h1, z⟩ h2 (dnl_of t e2)
theorem dn_view {K : Frag} {H : Hp} {v : V} {ds : List (D × D)} {nd : List (Nk × D)} (h : Dp K H v (.dict ds)) (e : keysN ds = some nd) : ∃ a kvs, v = .ref a ∧ DnV K H a kvs ∧ DnL K H kvs nd := by
  cases h with
  | dn h t => exact ⟨_, _, rfl, .inl h, dnl_of t e⟩
  | dk h t =>
    cases t with
    | nil =>
      cases e
      exact ⟨_, [], rfl, .inr ⟨rfl, h⟩, .nil⟩
    | cons _ _ =>
      unfold keysN at e
      rw [tk_leaf] at e
      cases e
section
variable {X : Cx} {pins : List (Addr × Obj)} {σ : SS} {H : Hp} {s : Shared}
theorem dnv_of {a : Addr} {kvs : List (Nk × Addr × V)} (I : Inv X pins σ H s) (h : DnV (X.fg tq) H a kvs) (hk : AllKy (X.fg tq) H kvs) : (a == sysModules) = false ∧ ∃ xs, KvN kvs xs ∧ s.heap.DictOfH (nestedKind X.prog X.w) a xs := by
  rcases h with h | ⟨rfl, h⟩
  · obtain ⟨_, low, xs, r, dd⟩ := dn_of I h hk
    exact ⟨low, xs, r, dd⟩
  · obtain ⟨_, low, vs, r, o, es, ep, ho, hc, hd, _, hp, _⟩ := dk_of I.hok h
    cases r
    have ez : es.toList = [] := by
      generalize es.toList = l at hp
      cases hp
      rfl
    exact ⟨low, [], .nil, o, es, ep, ho, hc, hd, ez, (fun x z => absurd z List.not_mem_nil), List.nodup_nil⟩
theorem nk_room (hu : X.A.units + 64 < cLine) : (nestedKind X.prog X.w).room X.A.in1 := by
  show X.A.in1.units + 8 < cLine
  have : X.A.in1.units = X.A.units + 1 := rfl
  omega
/-- k in d, k not in d -/
def rInV (K : Frag) (neg : Bool) : R2 := fun x y H Q => ∃ a b kvs k, x = .ref b ∧ y = .ref a ∧ KyH K H k b ∧ DnV K H a kvs ∧ AllKy K H kvs ∧ Q (.bl ((nAt kvs k).isSome != neg)) H
theorem op_inV (hu : X.A.units + 64 < cLine) : OpR X (compareOp .In) (rInV (X.fg tq) false) := fun pins s σ H x y v u Q I rx ry h => by
  obtain ⟨a, b, kvs, k, rfl, rfl, hk, ha, hal, q⟩ := h
  cases rx
  cases ry
  obtain ⟨low, xs, r, dd⟩ := dnv_of I ha hal
  refine wpAny_in_heap (knd := nestedKind X.prog X.w) (k := k) (nk_room hu) (ky_is I hk) low dd ?_
  rw [relO_at r]
  exact ⟨.bl _, H, I.tok _, rfl, by simpa using q⟩
theorem op_notInV (hu : X.A.units + 64 < cLine) : OpR X (compareOp .NotIn) (rInV (X.fg tq) true) := fun pins s σ H x y v u Q I rx ry h => by
  obtain ⟨a, b, kvs, k, rfl, rfl, hk, ha, hal, q⟩ := h
  cases rx
  cases ry
  obtain ⟨low, xs, r, dd⟩ := dnv_of I ha hal
  refine wpAny_notIn_heap (knd := nestedKind X.prog X.w) (k := k) (nk_room hu) (ky_is I hk) low dd ?_
  rw [relO_at r]
  exact ⟨.bl _, H, I.tok _, rfl, by simpa using q⟩
def dInDn (neg : Bool) (a b : D) : Option D := match tkOf a, b with
  | some k, .dict ds => (keysN ds).map fun nd => .bool ((atN nd k).isSome != neg)
  | _, _ => none
theorem does_inV {K : Frag} {neg : Bool} : DoesD K (rInV K neg) (dInDn neg) := fun F H x y a b c Q hF ha hb hf k => by
  unfold dInDn at hf
  split at hf
  · rename_i kk ds hk
    obtain ⟨nd, e, rfl⟩ := Option.map_eq_some_iff.mp hf
    obtain ⟨b', rfl, ky⟩ := ky_of ha hk
    obtain ⟨p, kvs, rfl, dv, dl⟩ := dn_view hb e
    refine ⟨p, b', kvs, kk, rfl, rfl, ky.mono same_cut, dv.mono same_cut, dl.keys.mono same_cut, ?_⟩
    rw [dl.at_some]
    exact k _ _ (.refl _) (.bl _)
  · cases hf
theorem od_inDn (hu : X.A.units + 64 < cLine) : OpD X tq (compareOp .In) (dInDn false) := ⟨_, op_inV (tq := tq) hu, does_inV⟩
theorem od_notInDn (hu : X.A.units + 64 < cLine) : OpD X tq (compareOp .NotIn) (dInDn true) := ⟨_, op_notInV (tq := tq) hu, does_inV⟩
/-- d[k] -/
def rGetV (K : Frag) : R2 := fun x y H Q => ∃ a b kvs k v, x = .ref a ∧ y = .ref b ∧ KyH K H k b ∧ DnV K H a kvs ∧ AllKy K H kvs ∧ nAt kvs k = some v ∧ Q v H
theorem pe_getV {a b : Expr} {ta tb : TE} {pos : Pos} (hu : X.A.units + 64 < cLine) (ha : PE X a ta) (hb : PE X b tb) (hs : NoSl b) : PE X (.Subscript a b pos) (tOp (rGetV (X.fg tq)) ta tb) := by
  refine ⟨fun pins s σ H Q I h => ?_⟩
  refine subD_of PySem.F.slot_dict_getitem.lookup hs (thn (ha.run pins s σ H _ I h) fun u s1 h1 => ?_)
  obtain ⟨x, H1, I1, rx, q1⟩ := h1
  refine thn (hb.run pins s1 σ H1 _ I1 q1) fun iv s2 h2 => ?_
  obtain ⟨y, H2, I2, ry, p, b', kvs, k, v, rfl, rfl, ky, dv, al, ev, q2⟩ := h2
  cases rx
  cases ry
  obtain ⟨low, xs, r, dd⟩ := dnv_of I2 dv al
  have ro := kvn_at k r
  rw [ev] at ro
  cases e : atKey xs k with
  | none => rw [e] at ro; cases ro
  | some pv =>
    rw [e] at ro
    exact ⟨dd.typeIs, wpAny_getItem_heap (knd := nestedKind X.prog X.w) (nk_room hu) (ky_is I2 ky) dd e ⟨v, H2, I2.tok _, ro, q2⟩⟩
def dGetDn (a b : D) : Option D := match a, tkOf b with
  | .dict ds, some k => (keysN ds).bind fun nd => atN nd k
  | _, _ => none
theorem does_getV {K : Frag} : DoesD K (rGetV K) dGetDn := fun F H x y a b c Q hF ha hb hf k => by
  unfold dGetDn at hf
  split at hf
  · rename_i ds kk hk
    obtain ⟨nd, e, hf⟩ := Option.bind_eq_some_iff.mp hf
    obtain ⟨b', rfl, ky⟩ := ky_of hb hk
    obtain ⟨p, kvs, rfl, dv, dl⟩ := dn_view ha e
    rcases dl.at kk with ⟨_, e2⟩ | ⟨v, d, e1, e2, dp⟩
    · rw [e2] at hf; cases hf
    · rw [e2] at hf
      cases hf
      exact ⟨p, b', kvs, kk, v, rfl, rfl, ky.mono same_cut, dv.mono same_cut, dl.keys.mono same_cut, e1, k _ _ (.refl _) dp⟩
  · cases hf
theorem je_getDn {a b : Expr} {ma mb : ME} {pos : Pos} (hu : X.A.units + 64 < cLine) (ha : PE X a (tOf (X.fg tq) ma)) (hb : PE X b (tOf (X.fg tq) mb)) (hs : NoSl b) : PE X (.Subscript a b pos) (tOf (X.fg tq) (mBin dGetDn ma mb)) := PE.imp (pe_getV (tq := tq) hu ha hb hs) (bin_of does_getV)
end
end PB

set_option maxHeartbeats 4000000
/-! Own layer, further: d.get(k, x), d[k] = v, dict comprehensions with tuple keys. -/
namespace PB
open PySem PySem.Spec PyProof.Rows L2
section
variable {X : Cx}
/-- d.get(k, x) -/
def tGetV2 (K : Frag) (td ty tx : TE) : TE := fun σ H Q => td σ H fun x H1 => ∃ a kvs, x = .ref a ∧ DnV K H1 a kvs ∧ AllKy K H1 kvs ∧ ty σ H1 fun y H2 => tx σ H2 fun z H3 => ∃ b k, y = .ref b ∧ KyH K H3 k b ∧ DnV K H3 a kvs ∧ AllKy K H3 kvs ∧ Q ((nAt kvs k).getD z) H3
theorem pe_getV2 {o e f : Expr} {td ty tx : TE} {apos cpos : Pos} (hu : X.A.units + 64 < cLine) (ho : PE X o td) (he : PE X e ty) (hf : PE X f tx) (m : M2 X o "get" apos e f cpos) : PE X (.Call (.Attribute o "get" apos) [e, f] [] cpos) (tGetV2 (X.fg tq) td ty tx) := by
  refine ⟨fun pins s σ H Q I h => ?_⟩
  refine wpAny_Call_method m.base m.few m.line PySem.F.plainAttrs_dict PySem.F.slot_dict_get PySem.F.type_dict_get (thn (ho.run pins s σ H _ I h) fun u s1 h1 => ?_)
  obtain ⟨x, H1, I1, rx, a, kvs, rfl, dv, al, q1⟩ := h1
  obtain rfl : u = Value.ref a := rx
  obtain ⟨low, xs, r, dd⟩ := dnv_of I1 dv al
  refine ⟨dd.typeIs, fun b q => ?_, ?_⟩
  · cases q
    obtain ⟨ob, _, _, z1, z2, _⟩ := dd
    exact ⟨ob, z1, z2.2.1⟩
  rw [m.trees]
  refine Calls.callWith_builtin rfl (Calls.evalArgs_plain (Calls.spliced_cons (thn (he.run pins s1 σ H1 _ I1 q1) fun iv s2 h2 => ?_)))
  obtain ⟨y, H2, I2, ry, q2⟩ := h2
  refine Calls.spliced_cons (thn (hf.run pins s2 σ H2 _ I2 q2) fun fv s3 h3 => ?_)
  obtain ⟨z, H3, I3, rz, b, k, rfl, ky, dv3, al3, q3⟩ := h3
  refine Calls.spliced_nil ?_
  obtain rfl : iv = Value.ref b := ry
  obtain ⟨low3, xs3, r3, dd3⟩ := dnv_of I3 dv3 al3
  refine getOr_keyed (knd := nestedKind X.prog X.w) (k := k) (nk_room hu) (ky_is I3 ky) low3 ⟨xs3, dd3, rfl⟩ ⟨_, H3, I3.tok _, ?_, q3⟩
  rw [valueAt_pairsH]
  have ro := kvn_at k r3
  revert ro
  cases nAt kvs k <;> cases atKey xs3 k <;> intro ro
  · exact rz
  · cases ro
  · cases ro
  · exact ro
def getN2 (d k x : D) : Option D := match d, tkOf k with
  | .dict ds, some kk => (keysN ds).map fun nd => (atN nd kk).getD x
  | _, _ => none
theorem getN2_some {d k x z : D} (h : getN2 d k x = some z) : ∃ ds kk nd, d = .dict ds ∧ tkOf k = some kk ∧ keysN ds = some nd ∧ z = (atN nd kk).getD x := by
  unfold getN2 at h
  split at h
  · rename_i ds kk hk
    obtain ⟨nd, en, rfl⟩ := Option.map_eq_some_iff.mp h
    exact ⟨ds, kk, nd, rfl, hk, en, rfl⟩
  · cases h
def mGetDn2 (md mk mx : ME) : ME := fun e => (md e).bind fun d => (mk d.2).bind fun k => (mx k.2).bind fun x => (getN2 d.1 k.1 x.1).map fun z => (z, x.2)
theorem je_getDn2 {o e f : Expr} {md mk mx : ME} {apos cpos : Pos} (hu : X.A.units + 64 < cLine) (ho : PE X o (tOf (X.fg tq) md)) (he : PE X e (tOf (X.fg tq) mk)) (hf : PE X f (tOf (X.fg tq) mx)) (m : M2 X o "get" apos e f cpos) : PE X (.Call (.Attribute o "get" apos) [e, f] [] cpos) (tOf (X.fg tq) (mGetDn2 md mk mx)) := by
  refine PE.imp (pe_getV2 (tq := tq) hu ho he hf m) ?_
  rintro σ H Q ⟨G, e, d, e', rel, hm, kq⟩
  obtain ⟨⟨d1, e1⟩, h1, hm⟩ := Option.bind_eq_some_iff.mp hm
  obtain ⟨⟨d2, e2⟩, h2, hm⟩ := Option.bind_eq_some_iff.mp hm
  obtain ⟨⟨d3, e3⟩, h3, hm⟩ := Option.bind_eq_some_iff.mp hm
  obtain ⟨z, h4, hm⟩ := Option.map_eq_some_iff.mp hm
  obtain ⟨rfl, rfl⟩ := Prod.mk.inj hm
  obtain ⟨ds, kk, nd, e5, hk, en, rfl⟩ := getN2_some h4
  have e5' : d1 = .dict ds := e5
  subst e5'
  refine ⟨G, e, _, e1, rel, h1, fun v1 H1 s1 r1 p1 => ?_⟩
  obtain ⟨a, kvs, rfl, dv, dl⟩ := dn_view p1 en
  refine ⟨a, kvs, rfl, dv.mono same_cut, dl.keys.mono same_cut, G, e1, _, e2, r1, h2, fun v2 H2 s2 r2 p2 => ⟨G, e2, _, _, r2, h3, fun v3 H3 s3 r3 p3 => ?_⟩⟩
  obtain ⟨b, rfl, ky⟩ := ky_of (dp_mono s3.vis p2) hk
  have sm := (s2.trans s3).vis (G := G)
  have dl3 := dl.mono sm
  refine ⟨b, kk, rfl, ky.mono same_cut, (dv.mono sm).mono same_cut, dl3.keys.mono same_cut, kq _ _ ((s1.trans s2).trans s3) r3 ?_⟩
  rcases dl3.at kk with ⟨z1, z2⟩ | ⟨v, d, z1, z2, dp⟩
  · rw [z1, z2]; exact p3
  · rw [z1, z2]; exact dp
/-- d[k] = v, raw -/
def rSetN (K : Frag) : TSet := fun o i v H Q => ∃ a b kvs k, o = .ref a ∧ i = .ref b ∧ KyH K H k b ∧ H a = some (DnO K a kvs) ∧ AllKy K H kvs ∧ kvs.length < sizeLine ∧ Q (upd H a (DnO K a (nPut kvs k b v)))
theorem dn_write {pins : List (Addr × Obj)} {σ : SS} {H : Hp} {s : Shared} {a b : Addr} {kvs : List (Nk × Addr × V)} {xs : List (Nk × Addr × Value)} {k : Nk} {v : V} {u : Value} {h' : Heap} {tk : Nat} (I : Inv X pins σ H s) (ha : H a = some (DnO (X.fg tq) a kvs)) (low : (a == sysModules) = false) (r : KvN kvs xs) (rv : RelV v u) (hl : kvs.length < sizeLine)
    (dd : h'.DictOfH (nestedKind X.prog X.w) a (storedH xs k b u)) (sb : Heap.SameBut a s.heap h') : Inv X pins σ (upd H a (DnO (X.fg tq) a (nPut kvs k b v))) { s with heap := h', toks := tk } := by
  refine d_write I (by rw [ha]; exact True.intro) sb ?_ (dnO_ok (dn0_of (X := X) ?_ low (kvn_put r rv) dd))
  · obtain ⟨o, _, _, ho, _⟩ := dd
    exact ⟨o, ho⟩
  · have := nPut_len kvs k b v
    omega
theorem set_dn (hu : X.A.units + 64 < cLine) : PSet X (rSetN (X.fg tq)) := by
  intro pins s σ H o i v ov iv u Q I ro ri rv h
  obtain ⟨a, b, kvs, k, rfl, rfl, ky, ha, al, hl, q⟩ := h
  cases ro
  cases ri
  obtain ⟨hz, low, xs, r, dd⟩ := dn_of I ha al
  have hzx : xs.length ≤ sizeLine := by rw [← Paired.length r]; exact hz
  exact wpAny_setItem_heap (knd := nestedKind X.prog X.w) (hsz := hzx) (nk_room hu) (ky_is I ky) dd fun h' dd' sb => ⟨_, dn_write I ha low r rv hl dd' sb, q⟩
/-! ### one clause -/
def bDict (K : Frag) (Dn : Addr) (tk tv : TE) : SS → Hp → (Hp → Prop) → Prop := fun σ2 H3 Nx => tk σ2 H3 fun y H4 => tv σ2 H4 fun z H5 => ∃ kvs k b, y = .ref b ∧ KyH K H5 k b ∧ H5 Dn = some (DnO K Dn kvs) ∧ AllKy K H5 kvs ∧ kvs.length < sizeLine ∧ Nx (upd H5 Dn (DnO K Dn (nPut kvs k b z)))
def wDict (prog : Program) (w : World) (A : Around) (kx vx : Expr) (env : Env) (Dn : Addr) : BW := fun E s P => wpAny (model prog w) A (eval kx env) (fun kv s4 => wpAny (model prog w) A (eval vx env) (fun vv s5 => wpAny (model prog w) A (dictSet Dn kv vv) (fun _ s6 => P s6) E s5) E s4) E s
theorem body_dict {Y : Cx} {vs : List Nat} {kx vx : Expr} {tk tv : TE} {Dn : Addr} (hx : Y.xe = fun _ _ => False) (hu : Y.A.units + 64 < cLine) (hk : PE Y kx tk) (hv : PE Y vx tv) : BodyOk Y vs (wDict Y.prog Y.w Y.A kx vx Y.env Dn) (bDict (Y.fg tq) Dn tk tv) := by
  intro E pins s σ H Nx P I h fin
  have hkr := hk.run
  have hvr := hv.run
  rw [hx] at hkr hvr
  refine thnF (hkr pins s σ H _ I h) fun kv s4 h4 => ?_
  obtain ⟨y, H4, I4, ry, q4⟩ := h4
  refine thnF (hvr pins s4 σ H4 _ I4 q4) fun vv s5 h5 => ?_
  obtain ⟨z, H5, I5, rz, kvs, k, b, rfl, ky, hD, al, hl, nx⟩ := h5
  cases ry
  obtain ⟨hz, low, xs, r, dd⟩ := dn_of I5 hD al
  have hzx : xs.length ≤ sizeLine := by rw [← Paired.length r]; exact hz
  refine wpAny_dictSet_heap (knd := nestedKind Y.prog Y.w) (hsz := hzx) ?_ (ky_is I5 ky) dd fun h' dd' sb => fin _ _ _ (dn_write I5 hD low r rz hl dd' sb) rfl (fun _ _ _ z => z) nx
  show Y.A.units + 8 < cLine
  omega
theorem starts_dict {kx vx : Expr} {t i : Expr} {f : List Expr} {gs : List Comprehension} {scope : Scope} {pos : Pos} {prog : Program} {w : World} {A : Around} : Starts prog w A (.DictComp kx vx (⟨t, i, f, 0⟩ :: gs) scope pos) :=
  ⟨fun it acc env R s a b => codeAny_compStart_dict a b⟩
theorem looper_dict1 {prog : Program} {w : World} {A : Around} {kx vx tg iter : Expr} {ifs : List Expr} {scope : Scope} {pos : Pos} {it : Value} {Dn : Addr} {env : Env} : Looper prog w A (.DictComp kx vx [⟨tg, iter, ifs, 0⟩] scope pos) 0 it (.ref Dn) env tg ifs (wDict prog w A kx vx env Dn) :=
  fun R Iv turn n s hI => compLoop_anyD Iv turn n hI
theorem dn_empty (hb : Heap) (H' : Hp) (big : sysModules < hb.objs.size) : ObjOk X.prog X.w H' (hb.push { cls := .type "dict", data := .dict #[] }) hb.objs.size (DnO (X.fg tq) hb.objs.size []) := by
  refine dnO_ok (dn0_of (X := X) (xs := []) (Nat.zero_le _) ?_ .nil (Heap.DictOfH.new _))
  rw [beq_eq_false_iff_ne]
  intro z
  rw [← z] at big
  exact absurd big (Nat.lt_irrefl _)
theorem blk_fp {s3 : Shared} {H3 : Hp} {scope : Scope} {ce : Env} {fp : List Addr} : ∀ H', (∀ b ∈ fp, H' b = none) → ∀ (σ' : SS) (s' : Shared), Inv (X.blk s3 H3 scope ce fp) [] σ' H' s' → ∀ b ∈ fp, FpOk (X.blk s3 H3 scope ce fp) [] H' b := fun H' hn σ' s' I' b hb =>
  ⟨hn b hb, (I'.ok.exf b hb).1, I'.ok.exfs b hb, .inl hb, fun x c e => (I'.ok.exf b hb).2 x c e, fun p hp => absurd (show p ∈ ([] : List (Addr × Obj)) ++ [] from hp) (by simp)⟩
theorem pe_dn1 {kx vx tg iter : Expr} {ifs : List Expr} {scope : Scope} {own : List (Str × Nat)} {pos : Pos} {wi : TI} {g : TG} {tt : TT} {tk tv : TE} (hu : X.A.units + 64 < cLine) (hc : X.calm = true) (hN : X.N.Nodup) (hi : PI X tg iter wi) (ok : BlkOk X.N X.env.scope scope own)
    (hg : ∀ (s : Shared) (H : Hp) (C : Addr) (cl : List (Str × Addr)) (fp : List Addr), PG (X.blk s H scope (compEnvC scope cl C X.env) fp) tg g) (ht : ∀ (s : Shared) (H : Hp) (C : Addr) (cl : List (Str × Addr)) (fp : List Addr), PTs (X.blk s H scope (compEnvC scope cl C X.env) fp) ifs tt)
    (hk : ∀ (s : Shared) (H : Hp) (C : Addr) (cl : List (Str × Addr)) (fp : List Addr), PE (X.blk s H scope (compEnvC scope cl C X.env) fp) kx tk) (hv : ∀ (s : Shared) (H : Hp) (C : Addr) (cl : List (Str × Addr)) (fp : List Addr), PE (X.blk s H scope (compEnvC scope cl C X.env) fp) vx tv) (hs : ∀ x, foldedSetIterable iter X.env x = pure x := by intro _; rfl) :
    PE X (.DictComp kx vx [⟨tg, iter, ifs, 0⟩] scope pos) (tComp wi (fun Dn => DnO (X.fg tq) Dn []) fun J Dn σ H Z => tClause J g tt (bDict (X.fg tq) Dn tk tv) (own.map (·.2)) σ H Z) := by
  refine ⟨fun pins s σ H Q I h => ?_⟩
  rw [arm_eval_DictComp]
  refine comp_core (gs := []) rfl starts_dict (ob := { cls := .type "dict", data := .dict #[] }) (fun s Q q => wpAny_newObj_type q) (fun hb H' big => dn_empty hb H' big) (fun hb b o e => Heap.get?_push_of_some _ e) (fun hb => Heap.size_push _ _) hN I hi ok hs ?_ h
  intro s3 s4 H3 C it Dn cl fp tn J Z T I4 st4 n4 q
  exact blk_loop (Y := X.blk s3 H3 scope (compEnvC scope cl C X.env) fp) (bw := wDict X.prog X.w X.A kx vx (compEnvC scope cl C X.env) Dn) hc rfl T blk_fp (hg s3 H3 C cl fp) (ht s3 H3 C cl fp) (body_dict (tq := tq) rfl hu (hk s3 H3 C cl fp) (hv s3 H3 C cl fp)) looper_dict1 I4 st4 n4 q
end
end PB

set_option maxHeartbeats 4000000
/-! Own layer, further: dict comprehensions with tuple keys, by data. -/
namespace PB
open PySem PySem.Spec PyProof.Rows L2
def mPair (mk mv : ME) : ME := fun e => (mk e).bind fun k => (mv k.2).map fun v => (.tuple [k.1, v.1], v.2)
def pairN : D → Option (Nk × D)
  | .tuple [k, v] => (tkOf k).map fun k' => (k', v)
  | _ => none
def pairsN : List D → Option (List (Nk × D))
  | [] => some []
  | d :: r => (pairN d).bind fun p => (pairsN r).map (p :: ·)
theorem pairsN_app : ∀ {a b : List D} {ps : List (Nk × D)}, pairsN (a ++ b) = some ps → ∃ pa pb, pairsN a = some pa ∧ pairsN b = some pb ∧ ps = pa ++ pb
  | [], b, ps, h => ⟨[], ps, rfl, h, rfl⟩
  | d :: a, b, ps, h => by
    have h' : ((pairN d).bind fun p => (pairsN (a ++ b)).map (p :: ·)) = some ps := h
    obtain ⟨p, h1, h'⟩ := Option.bind_eq_some_iff.mp h'
    obtain ⟨r, h2, rfl⟩ := Option.map_eq_some_iff.mp h'
    obtain ⟨pa, pb, e1, e2, rfl⟩ := pairsN_app h2
    refine ⟨p :: pa, pb, ?_, e2, rfl⟩
    show ((pairN d).bind fun p => (pairsN a).map (p :: ·)) = _
    rw [h1, e1]
    rfl
theorem pairsN_snoc {a : List D} {d : D} {pa : List (Nk × D)} {p : Nk × D} (h1 : pairsN a = some pa) (h2 : pairN d = some p) : pairsN (a ++ [d]) = some (pa ++ [p]) := by
  induction a generalizing pa with
  | nil =>
    cases h1
    show ((pairN d).bind fun p => (pairsN []).map (p :: ·)) = _
    rw [h2]
    rfl
  | cons x a ih =>
    have h' : ((pairN x).bind fun p => (pairsN a).map (p :: ·)) = some pa := h1
    obtain ⟨q, e1, h'⟩ := Option.bind_eq_some_iff.mp h'
    obtain ⟨r, e2, rfl⟩ := Option.map_eq_some_iff.mp h'
    show ((pairN x).bind fun p => (pairsN (a ++ [d])).map (p :: ·)) = _
    rw [e1, ih e2]
    rfl
theorem pairsN_len : ∀ {a : List D} {pa : List (Nk × D)}, pairsN a = some pa → pa.length = a.length
  | [], pa, h => by cases h; rfl
  | d :: a, pa, h => by
    have h' : ((pairN d).bind fun p => (pairsN a).map (p :: ·)) = some pa := h
    obtain ⟨p, h1, h'⟩ := Option.bind_eq_some_iff.mp h'
    obtain ⟨r, h2, rfl⟩ := Option.map_eq_some_iff.mp h'
    rw [List.length_cons, List.length_cons, pairsN_len h2]
def dictOf (ps : List (Nk × D)) : D := .dict (outN (mergeN [] ps))
def mDc (ml : ML) : ME := fun e => (ml e).bind fun r => (pairsN r.1).map fun ps => (dictOf ps, r.2)
section
variable {K : Frag} {X : Cx}
theorem tCC_of {mi : ML} {bind : MG} {test : MT} {mk mv : ME} {vs js : List Nat} (hjs : ∀ j ∈ js, j ∈ vs) :
    ∀ σ H Q, tOf K (mDc (mLc mi bind test (mPair mk mv) vs)) σ H Q → tComp (tIOf K fl mi) (fun Dn => DnO K Dn []) (fun J Dn σ H Z => tClause J (tGOf K fl js bind) (tTOf K test) (bDict K Dn (tOf K mk) (tOf K mv)) vs σ H Z) σ H Q := by
  rintro σ H Q ⟨G, e, dd, e', rel, hm, k⟩
  obtain ⟨⟨out0, e0'⟩, hl, hm⟩ := Option.bind_eq_some_iff.mp hm
  obtain ⟨ps, hps, hm⟩ := Option.map_eq_some_iff.mp hm
  obtain ⟨rfl, rfl⟩ := Prod.mk.inj hm
  obtain ⟨⟨items, e1⟩, h1, hm⟩ := Option.bind_eq_some_iff.mp hl
  simp only at hm
  split at hm
  case isFalse => cases hm
  rename_i hz
  obtain ⟨e0, h0, hm⟩ := Option.bind_eq_some_iff.mp hm
  obtain ⟨⟨out, eF⟩, hgo, hm⟩ := Option.map_eq_some_iff.mp hm
  obtain ⟨rfl, rfl⟩ := Prod.mk.inj hm
  obtain ⟨hn, rfl⟩ := wipeC_some h0
  refine ⟨G, e, items, e1, rel, h1, fun J H1 s1 r1 wk Dl hD => ?_⟩
  refine ⟨fun i m H' => m = items.length - i ∧ i ≤ items.length ∧ ∃ (ei : Sg) (kvs : List (Nk × Addr × V)) (da rest : List D) (pa : List (Nk × D)), Rel K (fun a => G a ∨ a = Dl) (wipe σ vs) H' ei ∧ (∀ i ∈ vs, ∀ s, ei[i]? ≠ some (some s)) ∧
      Step (wipe σ vs) (wipeE e1 vs) H1 (wipe σ vs) ei H' ∧ H' Dl = some (DnO K Dl kvs) ∧ pairsN da = some pa ∧ DnL K (vis (fun a => G a ∨ a = Dl) (wipe σ vs) ei H') kvs (mergeN [] pa) ∧ da.length ≤ i ∧ lcGo bind test (mPair mk mv) vs (items.drop i) ei = some (rest, eF) ∧ da ++ rest = out,
    ⟨items.length, by simp, Nat.zero_le _, wipeE e1 vs, [], [], out, [], (r1.wiped hn).foreign hD, wiped_none, Step.refl.other hD, upd_same, rfl, .nil, Nat.le_refl _, by simpa using hgo, rfl⟩, ?_⟩
  rintro i m H2 ⟨rfl, hi, ei, kvs, da, rest, pa, ri, hei, st, hDl, hpa, dacc, hlen, hgo', hout⟩
  obtain ⟨b1, b2, b3⟩ := back hn r1 hD ri hei st
  have seen : Same (vis G σ e1 H1) (vis (fun a => G a ∨ a = Dl) (wipe σ vs) ei H2) := fun a o h => by
    obtain ⟨q1, q2⟩ := cut_mp h
    have hne : a ≠ Dl := ne_of_none q2 hD
    refine cut_of ?_ (st.keep a o q2 (fun w => q1 (.inr (own_wiped w))) (cut_nt h)) (cut_nt h)
    rintro ((w | w) | w)
    · exact q1 (.inl w)
    · exact hne w
    · rcases st.new a w with z | z
      · exact q1 (.inr (own_wiped z))
      · rw [q2] at z; cases z
  by_cases hlt : i < items.length
  · refine .inr ⟨wk.go i H2 (seen.trans same_cut) hlt, ?_⟩
    have hdrop : items.drop i = items[i] :: items.drop (i + 1) := List.drop_eq_getElem_cons hlt
    rw [hdrop] at hgo'
    unfold lcGo at hgo'
    obtain ⟨e2, hb, hgo'⟩ := Option.bind_eq_some_iff.mp hgo'
    obtain ⟨⟨t, e3⟩, ht, hgo'⟩ := Option.bind_eq_some_iff.mp hgo'
    refine ⟨fun H' => ∃ m', m' < items.length - i ∧ (m' = items.length - (i + 1) ∧ i + 1 ≤ items.length ∧ ∃ (ei : Sg) (kvs : List (Nk × Addr × V)) (da rest : List D) (pa : List (Nk × D)), Rel K (fun a => G a ∨ a = Dl) (wipe σ vs) H' ei ∧ (∀ i ∈ vs, ∀ s, ei[i]? ≠ some (some s)) ∧
      Step (wipe σ vs) (wipeE e1 vs) H1 (wipe σ vs) ei H' ∧ H' Dl = some (DnO K Dl kvs) ∧ pairsN da = some pa ∧ DnL K (vis (fun a => G a ∨ a = Dl) (wipe σ vs) ei H') kvs (mergeN [] pa) ∧ da.length ≤ i + 1 ∧ lcGo bind test (mPair mk mv) vs (items.drop (i + 1)) ei = some (rest, eF) ∧ da ++ rest = out), fun H' h => h, fun x H3 hy => ?_⟩
    obtain ⟨sm3, dx⟩ := wk.yld i H2 (fun a => (G a ∨ a = Dl) ∨ Own (wipe σ vs) ei a) x H3 items[i] seen ri.ne0 (List.getElem?_eq_getElem hlt) hy
    refine ⟨fun a => G a ∨ a = Dl, ei, items[i], e2, ri.grow sm3, dx, hb, fun σ2 k2 l2 s2 r2 => ?_⟩
    have hws : wipe σ2 vs = wipe σ vs := by
      have hh : wipe σ2 vs = wipe (wipe σ vs) vs := wipe_ext l2 fun j hj => k2 j fun w => hj (hjs j w)
      rw [hh, wipe2]
    refine ⟨hws, fun a => G a ∨ a = Dl, e2, t, e3, r2, ht, fun H4 s4 r4 => ?_⟩
    have g2 : Step (wipe σ vs) ei H2 σ2 e2 H3 := (Step.grow (e := ei) sm3).trans s2
    have g4 : Step (wipe σ vs) ei H2 σ2 e3 H4 := g2.trans s4
    have D4 : H4 Dl = some (DnO K Dl kvs) := g4.keep Dl _ hDl ri.notOwn rfl
    cases t with
    | true =>
      rw [if_pos rfl] at hgo'
      obtain ⟨⟨y, e4⟩, he, hgo'⟩ := Option.bind_eq_some_iff.mp hgo'
      obtain ⟨e5, hw5, hgo'⟩ := Option.bind_eq_some_iff.mp hgo'
      obtain ⟨⟨rest', eF'⟩, hrest, hgo'⟩ := Option.map_eq_some_iff.mp hgo'
      obtain ⟨rfl, rfl⟩ := Prod.mk.inj hgo'
      obtain ⟨hn5, rfl⟩ := wipeC_some hw5
      obtain ⟨⟨kd, ek⟩, hk1, he⟩ := Option.bind_eq_some_iff.mp he
      obtain ⟨⟨vd, ev⟩, hv1, he⟩ := Option.map_eq_some_iff.mp he
      obtain ⟨rfl, rfl⟩ := Prod.mk.inj he
      -- the key
      have hpp := hps
      rw [← hout] at hpp
      obtain ⟨pa', pb, z1, z2, _⟩ := pairsN_app hpp
      rw [hpa] at z1
      cases z1
      have z2' : ((pairN (.tuple [kd, vd])).bind fun p => (pairsN rest').map (p :: ·)) = some pb := z2
      obtain ⟨p, z3, _⟩ := Option.bind_eq_some_iff.mp z2'
      have z4 : ((tkOf kd).map fun k' => (k', vd)) = some p := z3
      obtain ⟨kk, z5, rfl⟩ := Option.map_eq_some_iff.mp z4
      refine iteT ⟨fun a => G a ∨ a = Dl, e3, kd, ek, r4, hk1, fun vk H5 s5 r5 dk => ⟨fun a => G a ∨ a = Dl, ek, vd, _, r5, hv1, fun vv H6 s6 r6 dv => ?_⟩⟩
      obtain ⟨b, rfl, ky⟩ := ky_of (dp_mono s6.vis dk) z5
      have g6 : Step (wipe σ vs) ei H2 σ2 _ H6 := (g4.trans s5).trans s6
      have D6 : H6 Dl = some (DnO K Dl kvs) := g6.keep Dl _ hDl ri.notOwn rfl
      have g7 : Step (wipe σ vs) ei H2 (wipe σ2 vs) (wipeE _ vs) H6 := g6.trans (Step.wiped hn5)
      have smw := (Step.wiped (H := H6) (σ := σ2) hn5).vis (G := fun a => G a ∨ a = Dl)
      rw [hws] at g7 smw
      have r7 := r6.wiped hn5
      rw [hws] at r7
      have dl6 := dacc.mono g6.vis
      have hml := mergeN_len pa []
      have hpl := pairsN_len hpa
      have hdl := dacc.len
      have hz' : items.length ≤ 100000 := of_decide_eq_true hz
      simp only [List.length_nil] at hml
      refine ⟨kvs, kk, b, rfl, ky.mono same_cut, D6, dl6.keys.mono same_cut, by rw [sizeLine_eq]; omega, items.length - (i + 1), by omega, rfl, by omega, wipeE _ vs, _, da ++ [.tuple [kd, vd]], rest', pa ++ [(kk, vd)], r7.other2 (.inr rfl) D6 rfl (fun q => dn_ne_code), wiped_none, (st.trans g7).other hD, upd_same, pairsN_snoc hpa z3, ?_, ?_, hrest, ?_⟩
      · rw [mergeN_snoc]
        exact DnL.mono (vis_other (.inr rfl)) (DnL.mono smw (dl6.put ky dv))
      · rw [List.length_append, List.length_singleton]
        omega
      · rw [List.append_assoc]
        exact hout
    | false =>
      rw [if_neg Bool.false_ne_true] at hgo'
      obtain ⟨e5, hw5, hgo'⟩ := Option.bind_eq_some_iff.mp hgo'
      obtain ⟨hn5, rfl⟩ := wipeC_some hw5
      have g6 : Step (wipe σ vs) ei H2 (wipe σ2 vs) (wipeE e3 vs) H4 := g4.trans (Step.wiped hn5)
      rw [hws] at g6
      have r6 := r4.wiped hn5
      rw [hws] at r6
      exact iteF ⟨items.length - (i + 1), by omega, rfl, by omega, wipeE e3 vs, kvs, da, rest, pa, r6, wiped_none, st.trans g6, D4, hpa, dacc.mono g6.vis, by omega, hgo', hout⟩
  · have hi2 : i = items.length := by omega
    refine .inl ⟨wk.stop i H2 (seen.trans same_cut) (by omega), ?_⟩
    rw [hi2, List.drop_length] at hgo'
    cases hgo'
    rw [List.append_nil] at hout
    subst hout
    rw [hpa] at hps
    cases hps
    refine k (.ref Dl) H2 (s1.trans b1) b2.tame (.dn (kvs := kvs) (cut_of ?_ hDl) (DnL.out (dacc.mono ?_)))
    · rintro (w | w)
      · exact r1.frn Dl w hD
      · exact b2.notOwn w
    · intro a o h
      obtain ⟨q1, q2⟩ := cut_mp h
      refine cut_of ?_ q2
      rintro (w | w)
      · exact q1 (.inl (.inl w))
      · exact q1 (.inr ((b3 a).mp w))
theorem je_dn1 {kx vx tg iter : Expr} {ifs : List Expr} {scope : Scope} {own : List (Str × Nat)} {pos : Pos} {mi : ML} {bind : MG} {test : MT} {mk mv : ME} {js : List Nat} (hu : X.A.units + 64 < cLine) (hc : X.calm = true) (hN : X.N.Nodup) (hi : PI X tg iter (tIOf (X.fg tq) fl mi)) (ok : BlkOk X.N X.env.scope scope own)
    (hg : ∀ (s : Shared) (H : Hp) (C : Addr) (cl : List (Str × Addr)) (fp : List Addr), PG (X.blk s H scope (compEnvC scope cl C X.env) fp) tg (tGOf (X.fg tq) fl js bind)) (ht : ∀ (s : Shared) (H : Hp) (C : Addr) (cl : List (Str × Addr)) (fp : List Addr), PTs (X.blk s H scope (compEnvC scope cl C X.env) fp) ifs (tTOf (X.fg tq) test))
    (hk : ∀ (s : Shared) (H : Hp) (C : Addr) (cl : List (Str × Addr)) (fp : List Addr), PE (X.blk s H scope (compEnvC scope cl C X.env) fp) kx (tOf (X.fg tq) mk)) (hv : ∀ (s : Shared) (H : Hp) (C : Addr) (cl : List (Str × Addr)) (fp : List Addr), PE (X.blk s H scope (compEnvC scope cl C X.env) fp) vx (tOf (X.fg tq) mv))
    (hjs : ∀ j ∈ js, j ∈ own.map (·.2) := by decide) (hs : ∀ x, foldedSetIterable iter X.env x = pure x := by intro _; rfl) :
    PE X (.DictComp kx vx [⟨tg, iter, ifs, 0⟩] scope pos) (tOf (X.fg tq) (mDc (mLc mi bind test (mPair mk mv) (own.map (·.2))))) := PE.imp (pe_dn1 (tq := tq) hu hc hN hi ok hg ht hk hv hs) (tCC_of hjs)
end
end PB

set_option maxHeartbeats 4000000
/-! Own layer, further: dict comprehensions with tuple keys, of two clauses. -/
namespace PB
open PySem PySem.Spec PyProof.Rows L2
section
variable {prog : Program} {w : World} {A : Around} {kx vx t0 i0 t1 i1 : Expr} {ifs0 ifs1 : List Expr} {scope : Scope} {pos : Pos} {it : Value} {env : Env}
theorem turnD_out {acc : Value} : compTurn (.DictComp kx vx [⟨t0, i0, ifs0, 0⟩, ⟨t1, i1, ifs1, 0⟩] scope pos) 0 it acc env = (do
      standAt i0.pos
      match ← pyNext it with
      | none => pure (.done .next)
      | some v =>
        letOwnedTupleGo t0 it v
        assign t0 env v
        let mut ok := true
        for c in ifs0 do
          if ok then ok ← isTrue c env (eval c env)
        if ok then
          let x ← eval i1 env
          standAt i1.pos
          let x ← foldedSetIterable i1 env x
          let _ ← runOwn (.compStart (.DictComp kx vx [⟨t0, i0, ifs0, 0⟩, ⟨t1, i1, ifs1, 0⟩] scope pos) 1 (← holding [x] (pyIter x)) acc env) env
        again (.compLoop (.DictComp kx vx [⟨t0, i0, ifs0, 0⟩, ⟨t1, i1, ifs1, 0⟩] scope pos) 0 it acc env)) := by rfl
theorem turnD_in {Dn : Addr} : compTurn (.DictComp kx vx [⟨t0, i0, ifs0, 0⟩, ⟨t1, i1, ifs1, 0⟩] scope pos) 1 it (.ref Dn) env = (do
      standAt i1.pos
      match ← pyNext it with
      | none => pure (.done .next)
      | some v =>
        letOwnedTupleGo t1 it v
        assign t1 env v
        let mut ok := true
        for c in ifs1 do
          if ok then ok ← isTrue c env (eval c env)
        if ok then
          (do
            let kv ← eval kx env
            let vv ← holding [kv] (eval vx env)
            standAt { kx.pos with endLine := vx.pos.endLine, endCol := vx.pos.endCol }
            holding [kv, vv] (dictSet Dn kv vv))
        again (.compLoop (.DictComp kx vx [⟨t0, i0, ifs0, 0⟩, ⟨t1, i1, ifs1, 0⟩] scope pos) 1 it (.ref Dn) env)) := by rfl
def wOut (prog : Program) (w : World) (A : Around) (cx i1 : Expr) (acc : Value) (env : Env) : BW := fun E s P => wpAny (model prog w) A (eval i1 env) (fun x s4 => wpAny (model prog w) A (pyIter x) (fun it1 s5 =>
  codeAny (model prog w) A (.compStart cx 1 it1 acc env) (fun r s' => match r with
    | .ok _ => P s'
    | .error _ => False) s5) E s4) E s
theorem looper_out {acc : Value} (hs : ∀ x, foldedSetIterable i1 env x = pure x) : Looper prog w A (.DictComp kx vx [⟨t0, i0, ifs0, 0⟩, ⟨t1, i1, ifs1, 0⟩] scope pos) 0 it acc env t0 ifs0 (wOut prog w A (.DictComp kx vx [⟨t0, i0, ifs0, 0⟩, ⟨t1, i1, ifs1, 0⟩] scope pos) i1 acc env) := by
  intro R Iv turn n s hI
  refine codeAny_loop rfl Iv (fun n s hI => ?_) n hI
  show wpAny _ A ((compTurn (.DictComp kx vx [⟨t0, i0, ifs0, 0⟩, ⟨t1, i1, ifs1, 0⟩] scope pos) 0 it acc env).onRaise (fun x => do noteFrame x env; theTreesLotGoes x)) _ _ s
  refine wpAny_noted ?_
  rw [turnD_out]
  refine wpAny_bind (wpAny_standAt (wpAny_bind (thn (turn n s hI) fun r s1 q1 => ?_)))
  cases r with
  | none => exact wpAny_pure q1
  | some v =>
    refine wpAny_bind (thn q1 fun _ s2 q2 => wpAny_bind (thn q2 fun _ s3 q3 => wpAny_bind (thn q3 fun ok s4 q4 => ?_)))
    cases ok with
    | false => exact wpAny_pure ⟨rfl, q4⟩
    | true =>
      refine wpAny_bind (thn q4 fun x s5 q5 => wpAny_bind (wpAny_standAt (wpAny_bind (wpAny_of_eq (hs x) (wpAny_bind (wpAny_holding (thn q5 fun it1 s6 q6 => ?_)))))))
      refine wpAny_bind (wpAny_runOwn ?_)
      rw [Around.mark_none]
      refine codeAny_mono q6 fun r s' hr => ?_
      cases r with
      | error e => exact False.elim hr
      | ok f => first | exact wpAny_pure ⟨rfl, hr⟩ | exact wpAny_bind (wpAny_pure (wpAny_pure ⟨rfl, hr⟩))
theorem looper_in {Dn : Addr} : Looper prog w A (.DictComp kx vx [⟨t0, i0, ifs0, 0⟩, ⟨t1, i1, ifs1, 0⟩] scope pos) 1 it (.ref Dn) env t1 ifs1 (wDict prog w A kx vx env Dn) := by
  intro R Iv turn n s hI
  refine codeAny_loop rfl Iv (fun n s hI => ?_) n hI
  show wpAny _ A ((compTurn (.DictComp kx vx [⟨t0, i0, ifs0, 0⟩, ⟨t1, i1, ifs1, 0⟩] scope pos) 1 it (.ref Dn) env).onRaise (fun x => do noteFrame x env; theTreesLotGoes x)) _ _ s
  refine wpAny_noted ?_
  rw [turnD_in]
  refine wpAny_bind (wpAny_standAt (wpAny_bind (thn (turn n s hI) fun r s1 q1 => ?_)))
  cases r with
  | none => exact wpAny_pure q1
  | some v =>
    refine wpAny_bind (thn q1 fun _ s2 q2 => wpAny_bind (thn q2 fun _ s3 q3 => wpAny_bind (thn q3 fun ok s4 q4 => ?_)))
    cases ok with
    | false => exact wpAny_pure ⟨rfl, q4⟩
    | true => exact wpAny_bind (wpAny_bind (thn q4 fun kv s5 q5 => wpAny_bind (wpAny_holding (thn q5 fun vv s6 q6 => wpAny_bind (wpAny_standAt (wpAny_holding (thn q6 fun _ s7 q7 => wpAny_pure ⟨rfl, q7⟩)))))))
theorem startD_in {acc : Value} {R : Result → Shared → Prop} {s : Shared} (h0 : codeAny (model prog w) A (.compLoop (.DictComp kx vx [⟨t0, i0, ifs0, 0⟩, ⟨t1, i1, ifs1, 0⟩] scope pos) 1 it acc env) R s)
    (h : wpAny (model prog w) A (pyIter it) (fun it' s' => codeAny (model prog w) A (.compLoop (.DictComp kx vx [⟨t0, i0, ifs0, 0⟩, ⟨t1, i1, ifs1, 0⟩] scope pos) 1 it' acc env) R s') (notedBy (model prog w) A env fun x s' => R (.error x) s') s) :
    codeAny (model prog w) A (.compStart (.DictComp kx vx [⟨t0, i0, ifs0, 0⟩, ⟨t1, i1, ifs1, 0⟩] scope pos) 1 it acc env) R s := by
  refine codeAny_of_tree ?_
  show wpAny _ _ ((compStart (.DictComp kx vx [⟨t0, i0, ifs0, 0⟩, ⟨t1, i1, ifs1, 0⟩] scope pos) 1 it acc env).onRaise (fun x => do noteFrame x env; standAt theWindowsPlace)) _ _ s
  refine wpAny_notedAt ?_
  unfold compStart
  show wpAny _ _ (ask >>= _) _ _ s
  refine wpAny_bind (wpAny_askSetting (wpAny_ite (?_ : _)))
  have h2 : wpAny (model prog w) A (pyIter it) (fun it' s' => True ∧ codeAny (model prog w) A (.compLoop (.DictComp kx vx [⟨t0, i0, ifs0, 0⟩, ⟨t1, i1, ifs1, 0⟩] scope pos) 1 it' acc env) R s') (notedBy (model prog w) A env fun x s' => R (.error x) s') s := thn h fun _ _ q => ⟨True.intro, q⟩
  split
  · first | exact wpAny_bind (wpAny_pure (wpAny_pure ⟨rfl, h0⟩)) | exact wpAny_pure ⟨rfl, h0⟩
  · first
      | exact wpAny_bind (wpAny_rule (wpAny_bind (wpAny_standAt (wpAny_bind (thn h2 fun it' s' q => wpAny_pure ⟨rfl, q.2⟩)))))
      | (refine wpAny_bind (wpAny_rule ?_); show wpAny _ _ (standAt i1.pos >>= _) _ _ s; exact wpAny_bind (wpAny_standAt (wpAny_bind (thn h2 fun it' s' q => wpAny_pure ⟨rfl, q.2⟩))))
end
section
variable {X : Cx}
def bOut (wi1 : TI) (g1 : TG) (tt1 : TT) (body : SS → Hp → (Hp → Prop) → Prop) (vs1 : List Nat) : SS → Hp → (Hp → Prop) → Prop := fun σ2 H3 Nx => wi1 σ2 H3 fun J1 H4 => tClause J1 g1 tt1 body vs1 σ2 H4 Nx
theorem body_out {Y : Cx} {vs vs1 : List Nat} {kx vx t0 i0 t1 i1 : Expr} {ifs0 ifs1 : List Expr} {scope : Scope} {pos : Pos} {Dn : Addr} {wi1 : TI} {g1 : TG} {tt1 : TT} {tk tv : TE} (hc : Y.calm = true) (hx : Y.xe = fun _ _ => False) (hu : Y.A.units + 64 < cLine) (hv : ∀ i ∈ vs1, i ∈ vs)
    (hi1 : PI Y t1 i1 wi1) (hg1 : PG Y t1 g1) (ht1 : PTs Y ifs1 tt1) (hk : PE Y kx tk) (hvx : PE Y vx tv) :
    BodyOk Y vs (wOut Y.prog Y.w Y.A (.DictComp kx vx [⟨t0, i0, ifs0, 0⟩, ⟨t1, i1, ifs1, 0⟩] scope pos) i1 (.ref Dn) Y.env) (bOut wi1 g1 tt1 (bDict (Y.fg tq) Dn tk tv) vs1) := by
  intro E pins s σ H Nx P I h fin
  have hir := hi1.run
  rw [hx] at hir
  refine thnF (hir pins s σ H _ I h) fun xv s4 h4 => thnF h4 fun itv s5 h5 => ?_
  obtain ⟨it1, fp1, tn1, J1, H5, e1, I5, T1, st5, f5, cl⟩ := h5
  subst e1
  have lp := blk_loop (bw := wDict Y.prog Y.w Y.A kx vx Y.env Dn) hc hx T1 (fun H' hn σ' s' I' b hb => ⟨hn b hb, (f5 b hb).2⟩) hg1 ht1 (body_dict (tq := tq) (vs := vs1) hx hu hk hvx) (looper_in (t0 := t0) (i0 := i0) (i1 := i1) (ifs0 := ifs0) (scope := scope) (pos := pos)) (I5.weak (wipe_length σ vs1) (fun j v e => (wipe_some e).1)) st5 (fun b hb => (f5 b hb).1) cl
  have lp2 : codeAny (model Y.prog Y.w) Y.A (.compLoop (.DictComp kx vx [⟨t0, i0, ifs0, 0⟩, ⟨t1, i1, ifs1, 0⟩] scope pos) 1 (.ref it1) (.ref Dn) Y.env) (fun r s' => match r with
      | .ok _ => P s'
      | .error _ => False) s5 := by
    refine codeAny_mono lp fun r s' hr => ?_
    cases r with
    | error e => exact False.elim hr
    | ok f =>
      obtain ⟨H', I', _, nx⟩ := hr
      refine fin s' _ H' I' (wipe_length σ vs1) (fun j v hj e => ?_) nx
      rw [wipe_out fun z => hj (hv j z)]
      exact e
  exact startD_in lp2 (T1.self Y.A 0 _ _ _ st5 lp2)
theorem pe_dn2 {kx vx tg iter tg1 iter1 : Expr} {ifs ifs1 : List Expr} {scope : Scope} {own : List (Str × Nat)} {vs1 : List Nat} {pos : Pos} {wi wi1 : TI} {g g1 : TG} {tt tt1 : TT} {tk tv : TE} (hu : X.A.units + 64 < cLine) (hc : X.calm = true) (hN : X.N.Nodup) (hi : PI X tg iter wi) (ok : BlkOk X.N X.env.scope scope own)
    (hv : ∀ i ∈ vs1, i ∈ own.map (·.2)) (hg : ∀ (s : Shared) (H : Hp) (C : Addr) (cl : List (Str × Addr)) (fp : List Addr), PG (X.blk s H scope (compEnvC scope cl C X.env) fp) tg g) (ht : ∀ (s : Shared) (H : Hp) (C : Addr) (cl : List (Str × Addr)) (fp : List Addr), PTs (X.blk s H scope (compEnvC scope cl C X.env) fp) ifs tt)
    (hi1 : ∀ (s : Shared) (H : Hp) (C : Addr) (cl : List (Str × Addr)) (fp : List Addr), PI (X.blk s H scope (compEnvC scope cl C X.env) fp) tg1 iter1 wi1) (hg1 : ∀ (s : Shared) (H : Hp) (C : Addr) (cl : List (Str × Addr)) (fp : List Addr), PG (X.blk s H scope (compEnvC scope cl C X.env) fp) tg1 g1)
    (ht1 : ∀ (s : Shared) (H : Hp) (C : Addr) (cl : List (Str × Addr)) (fp : List Addr), PTs (X.blk s H scope (compEnvC scope cl C X.env) fp) ifs1 tt1) (hk : ∀ (s : Shared) (H : Hp) (C : Addr) (cl : List (Str × Addr)) (fp : List Addr), PE (X.blk s H scope (compEnvC scope cl C X.env) fp) kx tk)
    (hvx : ∀ (s : Shared) (H : Hp) (C : Addr) (cl : List (Str × Addr)) (fp : List Addr), PE (X.blk s H scope (compEnvC scope cl C X.env) fp) vx tv) (hs : ∀ x, foldedSetIterable iter X.env x = pure x := by intro _; rfl) (hs1 : ∀ env x, foldedSetIterable iter1 env x = pure x := by intro _ _; rfl) :
    PE X (.DictComp kx vx [⟨tg, iter, ifs, 0⟩, ⟨tg1, iter1, ifs1, 0⟩] scope pos) (tComp wi (fun Dn => DnO (X.fg tq) Dn []) fun J Dn σ H Z => tClause J g tt (bOut wi1 g1 tt1 (bDict (X.fg tq) Dn tk tv) vs1) (own.map (·.2)) σ H Z) := by
  refine ⟨fun pins s σ H Q I h => ?_⟩
  rw [arm_eval_DictComp]
  refine comp_core (gs := [⟨tg1, iter1, ifs1, 0⟩]) rfl starts_dict (ob := { cls := .type "dict", data := .dict #[] }) (fun s Q q => wpAny_newObj_type q) (fun hb H' big => dn_empty hb H' big) (fun hb b o e => Heap.get?_push_of_some _ e) (fun hb => Heap.size_push _ _) hN I hi ok hs ?_ h
  intro s3 s4 H3 C it Dn cl fp tn J Z T I4 st4 n4 q
  exact blk_loop (Y := X.blk s3 H3 scope (compEnvC scope cl C X.env) fp) (bw := wOut X.prog X.w X.A (.DictComp kx vx [⟨tg, iter, ifs, 0⟩, ⟨tg1, iter1, ifs1, 0⟩] scope pos) iter1 (.ref Dn) (compEnvC scope cl C X.env)) hc rfl T blk_fp (hg s3 H3 C cl fp) (ht s3 H3 C cl fp)
    (body_out (tq := tq) hc rfl hu hv (hi1 s3 H3 C cl fp) (hg1 s3 H3 C cl fp) (ht1 s3 H3 C cl fp) (hk s3 H3 C cl fp) (hvx s3 H3 C cl fp)) (looper_out (hs1 _)) I4 st4 n4 q
end
end PB

set_option maxHeartbeats 4000000
/-! Own layer, further: dict comprehensions of two clauses, by data. -/
namespace PB
open PySem PySem.Spec PyProof.Rows L2
section
variable {K : Frag} {G : Addr → Prop} {X : Cx}
/-- what the dict holds: the pairs da, told so far -/
def Held (K : Frag) (Hv : Hp) (kvs : List (Nk × Addr × V)) (da : List D) : Prop := ∃ pa, pairsN da = some pa ∧ DnL K Hv kvs (mergeN [] pa)
theorem Held.mono {Hv Hw : Hp} {kvs : List (Nk × Addr × V)} {da : List D} (s : Same Hv Hw) (h : Held K Hv kvs da) : Held K Hw kvs da := by
  obtain ⟨pa, h1, h2⟩ := h
  exact ⟨pa, h1, h2.mono s⟩
theorem Held.len {Hv : Hp} {kvs : List (Nk × Addr × V)} {da : List D} (h : Held K Hv kvs da) : kvs.length ≤ da.length := by
  obtain ⟨pa, h1, h2⟩ := h
  have a := mergeN_len pa []
  have b := pairsN_len h1
  have c := h2.len
  simp only [List.length_nil] at a
  omega
theorem Held.keys {Hv : Hp} {kvs : List (Nk × Addr × V)} {da : List D} (h : Held K Hv kvs da) : AllKy K Hv kvs := by
  obtain ⟨pa, h1, h2⟩ := h
  exact h2.keys
theorem Held.put {Hv : Hp} {kvs : List (Nk × Addr × V)} {da : List D} {kd vd : D} {kk : Nk} {b : Addr} {v : V} (h : Held K Hv kvs da) (hk : KyH K Hv kk b) (e : tkOf kd = some kk) (hv : Dp K Hv v vd) : Held K Hv (nPut kvs kk b v) (da ++ [.tuple [kd, vd]]) := by
  obtain ⟨pa, h1, h2⟩ := h
  refine ⟨pa ++ [(kk, vd)], pairsN_snoc h1 ?_, ?_⟩
  · show (tkOf kd).map (fun k' => (k', vd)) = _
    rw [e]
    rfl
  · rw [mergeN_snoc]
    exact h2.put hk hv
theorem pairsN_mid {a b : List D} {kd vd : D} {ps : List (Nk × D)} (h : pairsN (a ++ .tuple [kd, vd] :: b) = some ps) : ∃ kk, tkOf kd = some kk := by
  obtain ⟨pa, pb, _, z2, _⟩ := pairsN_app h
  have z2' : ((pairN (.tuple [kd, vd])).bind fun p => (pairsN b).map (p :: ·)) = some pb := z2
  obtain ⟨p, z3, _⟩ := Option.bind_eq_some_iff.mp z2'
  have z4 : ((tkOf kd).map fun k' => (k', vd)) = some p := z3
  obtain ⟨kk, z5, _⟩ := Option.map_eq_some_iff.mp z4
  exact ⟨kk, z5⟩
theorem innerN_of {Dl : Addr} {σb σ2 : SS} {Hb H4 : Hp} {eb e2 eF : Sg} {J1 : It} {items : List D} {bind : MG} {test : MT} {mk mv : ME} {vs1 js1 : List Nat} {kvs0 : List (Nk × Addr × V)} {da0 ys rr : List D} {ps : List (Nk × D)} {Nx : Hp → Prop}
    (hjs : ∀ j ∈ js1, j ∈ vs1) (hG : G Dl) (hb : Hb Dl = none) (r : Rel K G σ2 H4 e2) (st0 : Step σb eb Hb σ2 e2 H4) (hn : noOwn e2 vs1 = true) (wk : WalkD K fl1 J1 (vis G σ2 e2 H4) items) (hD : H4 Dl = some (DnO K Dl kvs0))
    (ha : Held K (vis G σ2 e2 H4) kvs0 da0) (hgo : lcGo bind test (mPair mk mv) vs1 items (wipeE e2 vs1) = some (ys, eF)) (hz : da0.length + ys.length ≤ 100000) (hps : pairsN (da0 ++ ys ++ rr) = some ps)
    (fin : ∀ H' kvs', Step σb eb Hb (wipe σ2 vs1) eF H' → Rel K G (wipe σ2 vs1) H' eF → H' Dl = some (DnO K Dl kvs') → Held K (vis G (wipe σ2 vs1) eF H') kvs' (da0 ++ ys) → Nx H') :
    tClause J1 (tGOf K fl1 js1 bind) (tTOf K test) (bDict K Dl (tOf K mk) (tOf K mv)) vs1 σ2 H4 Nx := by
  refine ⟨fun j k H' => k = items.length - j ∧ j ≤ items.length ∧ ∃ (ei : Sg) (kvs : List (Nk × Addr × V)) (da rest : List D), Rel K G (wipe σ2 vs1) H' ei ∧ Step σb eb Hb (wipe σ2 vs1) ei H' ∧ Same (vis G σ2 e2 H4) (vis G (wipe σ2 vs1) ei H') ∧
      H' Dl = some (DnO K Dl kvs) ∧ Held K (vis G (wipe σ2 vs1) ei H') kvs da ∧ lcGo bind test (mPair mk mv) vs1 (items.drop j) ei = some (rest, eF) ∧ da ++ rest = da0 ++ ys,
    ⟨items.length, by simp, Nat.zero_le _, wipeE e2 vs1, kvs0, da0, ys, r.wiped hn, st0.trans (Step.wiped hn), (Step.wiped hn).vis, hD, ha.mono (Step.wiped hn).vis, by simpa using hgo, rfl⟩, ?_⟩
  rintro j k H2 ⟨rfl, hj, ei, kvs, da, rest, ri, st, seen, hDl, dacc, hgo', hout⟩
  have hlen : da.length + rest.length = da0.length + ys.length := by
    have := congrArg List.length hout
    simpa using this
  have notOwn : ∀ {σ : SS} {e : Sg} {H : Hp}, Rel K G σ H e → ¬ Own σ e Dl := fun rr w => by
    obtain ⟨i, b, ds', q1, q2⟩ := w
    obtain ⟨p, xs, q3, q4, q5, q6⟩ := rr.own i b ds' q1
    rw [q2] at q3
    cases q3
    exact q6 hG
  by_cases hlt : j < items.length
  · refine .inr ⟨wk.go j H2 (seen.trans same_cut) hlt, ?_⟩
    rw [List.drop_eq_getElem_cons hlt] at hgo'
    unfold lcGo at hgo'
    obtain ⟨e3, hbd, hgo'⟩ := Option.bind_eq_some_iff.mp hgo'
    obtain ⟨⟨t, e4⟩, ht, hgo'⟩ := Option.bind_eq_some_iff.mp hgo'
    refine ⟨fun H' => ∃ k', k' < items.length - j ∧ (k' = items.length - (j + 1) ∧ j + 1 ≤ items.length ∧ ∃ (ei : Sg) (kvs : List (Nk × Addr × V)) (da rest : List D), Rel K G (wipe σ2 vs1) H' ei ∧ Step σb eb Hb (wipe σ2 vs1) ei H' ∧ Same (vis G σ2 e2 H4) (vis G (wipe σ2 vs1) ei H') ∧
      H' Dl = some (DnO K Dl kvs) ∧ Held K (vis G (wipe σ2 vs1) ei H') kvs da ∧ lcGo bind test (mPair mk mv) vs1 (items.drop (j + 1)) ei = some (rest, eF) ∧ da ++ rest = da0 ++ ys), fun H' h => h, fun x H3 hy => ?_⟩
    obtain ⟨sm3, dx⟩ := wk.yld j H2 (fun a => G a ∨ Own (wipe σ2 vs1) ei a) x H3 items[j] seen ri.ne0 (List.getElem?_eq_getElem hlt) hy
    refine ⟨G, ei, items[j], e3, ri.grow sm3, dx, hbd, fun σ3 k3 l3 s3 r3 => ?_⟩
    have ws : wipe σ3 vs1 = wipe σ2 vs1 := (wipe_ext l3 fun i hi => k3 i fun w => hi (hjs i w)).trans (wipe2 σ2 vs1)
    refine ⟨ws, G, e3, t, e4, r3, ht, fun H6 s6 r6 => ?_⟩
    have g6 : Step (wipe σ2 vs1) ei H2 σ3 e4 H6 := ((Step.grow (e := ei) sm3).trans s3).trans s6
    have D6 : H6 Dl = some (DnO K Dl kvs) := g6.keep Dl _ hDl (notOwn ri) rfl
    cases t with
    | true =>
      rw [if_pos rfl] at hgo'
      obtain ⟨⟨y, e5⟩, he, hgo'⟩ := Option.bind_eq_some_iff.mp hgo'
      obtain ⟨e6, hw6, hgo'⟩ := Option.bind_eq_some_iff.mp hgo'
      obtain ⟨⟨rest', eF'⟩, hrest, hgo'⟩ := Option.map_eq_some_iff.mp hgo'
      obtain ⟨rfl, rfl⟩ := Prod.mk.inj hgo'
      obtain ⟨hn6, rfl⟩ := wipeC_some hw6
      obtain ⟨⟨kd, ek⟩, hk1, he⟩ := Option.bind_eq_some_iff.mp he
      obtain ⟨⟨vd, ev⟩, hv1, he⟩ := Option.map_eq_some_iff.mp he
      obtain ⟨rfl, rfl⟩ := Prod.mk.inj he
      obtain ⟨kk, z5⟩ : ∃ kk, tkOf kd = some kk := by
        rw [← hout, List.append_assoc, List.cons_append] at hps
        exact pairsN_mid hps
      refine iteT ⟨G, e4, kd, ek, r6, hk1, fun vk H7 s7 r7 dk => ⟨G, ek, vd, _, r7, hv1, fun vv H8 s8 r8 dv => ?_⟩⟩
      obtain ⟨b, rfl, ky⟩ := ky_of (dp_mono s8.vis dk) z5
      have g8 : Step (wipe σ2 vs1) ei H2 σ3 _ H8 := (g6.trans s7).trans s8
      have D8 : H8 Dl = some (DnO K Dl kvs) := g8.keep Dl _ hDl (notOwn ri) rfl
      have g9 := g8.trans (Step.wiped hn6)
      have smw := (Step.wiped (H := H8) (σ := σ3) hn6).vis (G := G)
      have r9 := r8.wiped hn6
      rw [ws] at g9 smw r9
      have dl8 := dacc.mono (g8.vis (G := G))
      have hl := dacc.len
      rw [List.length_cons] at hlen
      refine ⟨kvs, kk, b, rfl, ky.mono same_cut, D8, dl8.keys.mono same_cut, by rw [sizeLine_eq]; omega, items.length - (j + 1), by omega, rfl, by omega, wipeE _ vs1, _, da ++ [.tuple [kd, vd]], rest', r9.other2 hG D8 rfl (fun q => dn_ne_code), (st.trans g9).other hb, (seen.trans (g9.vis (G := G))).trans (vis_other hG), upd_same, ?_, hrest, ?_⟩
      · exact Held.mono (vis_other hG) (Held.mono smw (dl8.put ky z5 dv))
      · rw [List.append_assoc]
        exact hout
    | false =>
      rw [if_neg Bool.false_ne_true] at hgo'
      obtain ⟨e6, hw6, hgo'⟩ := Option.bind_eq_some_iff.mp hgo'
      obtain ⟨hn6, rfl⟩ := wipeC_some hw6
      have g7 := g6.trans (Step.wiped hn6)
      have r8 := r6.wiped hn6
      rw [ws] at g7 r8
      exact iteF ⟨items.length - (j + 1), by omega, rfl, by omega, wipeE e4 vs1, kvs, da, rest, r8, st.trans g7, seen.trans g7.vis, D6, dacc.mono g7.vis, hgo', hout⟩
  · have hj2 : j = items.length := by omega
    refine .inl ⟨wk.stop j H2 (seen.trans same_cut) (by omega), ?_⟩
    rw [hj2, List.drop_length] at hgo'
    cases hgo'
    rw [List.append_nil] at hout
    subst hout
    exact fin H2 kvs st ri hDl dacc
theorem tCC2_of {mi mi1 : ML} {bind bind1 : MG} {test test1 : MT} {mk mv : ME} {vs vs1 js js1 : List Nat} (hjs : ∀ j ∈ js, j ∈ vs) (hjs1 : ∀ j ∈ js1, j ∈ vs1) (hvs : ∀ j ∈ vs1, j ∈ vs) :
    ∀ σ H Q, tOf K (mDc (mLc2 mi bind test mi1 bind1 test1 (mPair mk mv) vs vs1)) σ H Q →
      tComp (tIOf K fl mi) (fun Dn => DnO K Dn []) (fun J Dn σ H Z => tClause J (tGOf K fl js bind) (tTOf K test) (bOut (tIOf K fl1 mi1) (tGOf K fl1 js1 bind1) (tTOf K test1) (bDict K Dn (tOf K mk) (tOf K mv)) vs1) vs σ H Z) σ H Q := by
  rintro σ H Q ⟨G, e, dd, e', rel, hm, k⟩
  obtain ⟨⟨out0, e0'⟩, hl, hm⟩ := Option.bind_eq_some_iff.mp hm
  obtain ⟨ps, hps, hm⟩ := Option.map_eq_some_iff.mp hm
  obtain ⟨rfl, rfl⟩ := Prod.mk.inj hm
  obtain ⟨⟨items, e1⟩, h1, hm⟩ := Option.bind_eq_some_iff.mp hl
  obtain ⟨e0, h0, hm⟩ := Option.bind_eq_some_iff.mp hm
  obtain ⟨⟨out, eF⟩, hgo, hm⟩ := Option.bind_eq_some_iff.mp hm
  simp only at hm hgo h0
  split at hm
  case isFalse => cases hm
  rename_i hz
  have hz : out.length ≤ 100000 := of_decide_eq_true hz
  obtain ⟨rfl, rfl⟩ := Prod.mk.inj (Option.some.inj hm)
  obtain ⟨hn, rfl⟩ := wipeC_some h0
  simp only at hps
  refine ⟨G, e, items, e1, rel, h1, fun J H1 s1 r1 wk Dl hD => ?_⟩
  refine ⟨fun i m H' => m = items.length - i ∧ i ≤ items.length ∧ ∃ (ei : Sg) (kvs : List (Nk × Addr × V)) (da rest : List D), Rel K (fun a => G a ∨ a = Dl) (wipe σ vs) H' ei ∧ (∀ i ∈ vs, ∀ s, ei[i]? ≠ some (some s)) ∧
      Step (wipe σ vs) (wipeE e1 vs) H1 (wipe σ vs) ei H' ∧ H' Dl = some (DnO K Dl kvs) ∧ Held K (vis (fun a => G a ∨ a = Dl) (wipe σ vs) ei H') kvs da ∧ lc2Go bind test mi1 bind1 test1 (mPair mk mv) vs vs1 (items.drop i) ei = some (rest, eF) ∧ da ++ rest = out,
    ⟨items.length, by simp, Nat.zero_le _, wipeE e1 vs, [], [], out, (r1.wiped hn).foreign hD, wiped_none, Step.refl.other hD, upd_same, ⟨[], rfl, .nil⟩, by simpa using hgo, rfl⟩, ?_⟩
  rintro i m H2 ⟨rfl, hi, ei, kvs, da, rest, ri, hei, st, hDl, dacc, hgo', hout⟩
  obtain ⟨b1, b2, b3⟩ := back hn r1 hD ri hei st
  have seen : Same (vis G σ e1 H1) (vis (fun a => G a ∨ a = Dl) (wipe σ vs) ei H2) := fun a o h => by
    obtain ⟨q1, q2⟩ := cut_mp h
    have hne : a ≠ Dl := ne_of_none q2 hD
    refine cut_of ?_ (st.keep a o q2 (fun w => q1 (.inr (own_wiped w))) (cut_nt h)) (cut_nt h)
    rintro ((w | w) | w)
    · exact q1 (.inl w)
    · exact hne w
    · rcases st.new a w with z | z
      · exact q1 (.inr (own_wiped z))
      · rw [q2] at z; cases z
  by_cases hlt : i < items.length
  · refine .inr ⟨wk.go i H2 (seen.trans same_cut) hlt, ?_⟩
    rw [List.drop_eq_getElem_cons hlt] at hgo'
    unfold lc2Go at hgo'
    obtain ⟨e2, hb, hgo'⟩ := Option.bind_eq_some_iff.mp hgo'
    obtain ⟨⟨t, e3⟩, ht, hgo'⟩ := Option.bind_eq_some_iff.mp hgo'
    refine ⟨fun H' => ∃ m', m' < items.length - i ∧ (m' = items.length - (i + 1) ∧ i + 1 ≤ items.length ∧ ∃ (ei : Sg) (kvs : List (Nk × Addr × V)) (da rest : List D), Rel K (fun a => G a ∨ a = Dl) (wipe σ vs) H' ei ∧ (∀ i ∈ vs, ∀ s, ei[i]? ≠ some (some s)) ∧
      Step (wipe σ vs) (wipeE e1 vs) H1 (wipe σ vs) ei H' ∧ H' Dl = some (DnO K Dl kvs) ∧ Held K (vis (fun a => G a ∨ a = Dl) (wipe σ vs) ei H') kvs da ∧ lc2Go bind test mi1 bind1 test1 (mPair mk mv) vs vs1 (items.drop (i + 1)) ei = some (rest, eF) ∧ da ++ rest = out), fun H' h => h, fun x H3 hy => ?_⟩
    obtain ⟨sm3, dx⟩ := wk.yld i H2 (fun a => (G a ∨ a = Dl) ∨ Own (wipe σ vs) ei a) x H3 items[i] seen ri.ne0 (List.getElem?_eq_getElem hlt) hy
    refine ⟨fun a => G a ∨ a = Dl, ei, items[i], e2, ri.grow sm3, dx, hb, fun σ2 k2 l2 s2 r2 => ?_⟩
    have hws : wipe σ2 vs = wipe σ vs := (wipe_ext l2 fun j hj => k2 j fun w => hj (hjs j w)).trans (wipe2 σ vs)
    refine ⟨hws, fun a => G a ∨ a = Dl, e2, t, e3, r2, ht, fun H4 s4 r4 => ?_⟩
    have g4 : Step (wipe σ vs) ei H2 σ2 e3 H4 := ((Step.grow (e := ei) sm3).trans s2).trans s4
    have D4 : H4 Dl = some (DnO K Dl kvs) := g4.keep Dl _ hDl ri.notOwn rfl
    cases t with
    | true =>
      rw [if_pos rfl] at hgo'
      obtain ⟨⟨its, e4⟩, hi1, hgo'⟩ := Option.bind_eq_some_iff.mp hgo'
      obtain ⟨e5, hw5, hgo'⟩ := Option.bind_eq_some_iff.mp hgo'
      obtain ⟨⟨ys, e6⟩, hin, hgo'⟩ := Option.bind_eq_some_iff.mp hgo'
      obtain ⟨e7, hw7, hgo'⟩ := Option.bind_eq_some_iff.mp hgo'
      obtain ⟨⟨rest', eF'⟩, hrest, hgo'⟩ := Option.map_eq_some_iff.mp hgo'
      obtain ⟨rfl, rfl⟩ := Prod.mk.inj hgo'
      obtain ⟨hn5, rfl⟩ := wipeC_some hw5
      obtain ⟨hn7, rfl⟩ := wipeC_some hw7
      refine iteT ⟨fun a => G a ∨ a = Dl, e3, its, e4, r4, hi1, fun J1 H5 s5 r5 wk1 => ?_⟩
      have g5 : Step (wipe σ vs) ei H2 σ2 e4 H5 := g4.trans s5
      have D5 : H5 Dl = some (DnO K Dl kvs) := s5.keep Dl _ D4 r4.notOwn rfl
      have hlen : da.length + (ys.length + rest'.length) = out.length := by
        have := congrArg List.length hout
        simpa using this
      refine innerN_of (rr := rest') hjs1 (.inr rfl) hD r5 (st.trans g5) hn5 wk1 D5 (dacc.mono g5.vis) hin (by omega) (by rw [List.append_assoc, hout]; exact hps) fun H6 kvs' st6 r6 D6 d6 => ?_
      have ww : wipe (wipe σ2 vs1) vs = wipe σ vs := by
        rw [← hws]
        exact wipe_ext (wipe_length σ2 vs1) fun j hj => wipe_out fun w => hj (hvs j w)
      have g7 := st6.trans (Step.wiped hn7)
      have r7 := r6.wiped hn7
      have smw := (Step.wiped (H := H6) (σ := wipe σ2 vs1) hn7).vis (G := fun a => G a ∨ a = Dl)
      rw [ww] at g7 r7 smw
      exact ⟨items.length - (i + 1), by omega, rfl, by omega, wipeE e6 vs, kvs', da ++ ys, rest', r7, wiped_none, g7, D6, d6.mono smw, hrest, by rw [List.append_assoc]; exact hout⟩
    | false =>
      rw [if_neg Bool.false_ne_true] at hgo'
      obtain ⟨e5, hw5, hgo'⟩ := Option.bind_eq_some_iff.mp hgo'
      obtain ⟨hn5, rfl⟩ := wipeC_some hw5
      have g6 := g4.trans (Step.wiped hn5)
      have r6 := r4.wiped hn5
      rw [hws] at g6 r6
      exact iteF ⟨items.length - (i + 1), by omega, rfl, by omega, wipeE e3 vs, kvs, da, rest, r6, wiped_none, st.trans g6, D4, dacc.mono g6.vis, hgo', hout⟩
  · have hi2 : i = items.length := by omega
    refine .inl ⟨wk.stop i H2 (seen.trans same_cut) (by omega), ?_⟩
    rw [hi2, List.drop_length] at hgo'
    cases hgo'
    rw [List.append_nil] at hout
    subst hout
    obtain ⟨pa, hpa, dl⟩ := dacc
    rw [hpa] at hps
    cases hps
    refine k (.ref Dl) H2 (s1.trans b1) b2.tame (.dn (kvs := kvs) (cut_of ?_ hDl) (DnL.out (dl.mono ?_)))
    · rintro (w | w)
      · exact r1.frn Dl w hD
      · exact b2.notOwn w
    · intro a o h
      obtain ⟨q1, q2⟩ := cut_mp h
      refine cut_of ?_ q2
      rintro (w | w)
      · exact q1 (.inl (.inl w))
      · exact q1 (.inr ((b3 a).mp w))
theorem je_dn2 {kx vx tg iter tg1 iter1 : Expr} {ifs ifs1 : List Expr} {scope : Scope} {own : List (Str × Nat)} {vs1 : List Nat} {pos : Pos} {mi mi1 : ML} {bind bind1 : MG} {test test1 : MT} {mk mv : ME} {js js1 : List Nat} (hu : X.A.units + 64 < cLine) (hc : X.calm = true) (hN : X.N.Nodup) (hi : PI X tg iter (tIOf (X.fg tq) fl mi)) (ok : BlkOk X.N X.env.scope scope own)
    (hv : ∀ i ∈ vs1, i ∈ own.map (·.2)) (hg : ∀ (s : Shared) (H : Hp) (C : Addr) (cl : List (Str × Addr)) (fp : List Addr), PG (X.blk s H scope (compEnvC scope cl C X.env) fp) tg (tGOf (X.fg tq) fl js bind)) (ht : ∀ (s : Shared) (H : Hp) (C : Addr) (cl : List (Str × Addr)) (fp : List Addr), PTs (X.blk s H scope (compEnvC scope cl C X.env) fp) ifs (tTOf (X.fg tq) test))
    (hi1 : ∀ (s : Shared) (H : Hp) (C : Addr) (cl : List (Str × Addr)) (fp : List Addr), PI (X.blk s H scope (compEnvC scope cl C X.env) fp) tg1 iter1 (tIOf (X.fg tq) fl1 mi1)) (hg1 : ∀ (s : Shared) (H : Hp) (C : Addr) (cl : List (Str × Addr)) (fp : List Addr), PG (X.blk s H scope (compEnvC scope cl C X.env) fp) tg1 (tGOf (X.fg tq) fl1 js1 bind1))
    (ht1 : ∀ (s : Shared) (H : Hp) (C : Addr) (cl : List (Str × Addr)) (fp : List Addr), PTs (X.blk s H scope (compEnvC scope cl C X.env) fp) ifs1 (tTOf (X.fg tq) test1)) (hk : ∀ (s : Shared) (H : Hp) (C : Addr) (cl : List (Str × Addr)) (fp : List Addr), PE (X.blk s H scope (compEnvC scope cl C X.env) fp) kx (tOf (X.fg tq) mk))
    (hvx : ∀ (s : Shared) (H : Hp) (C : Addr) (cl : List (Str × Addr)) (fp : List Addr), PE (X.blk s H scope (compEnvC scope cl C X.env) fp) vx (tOf (X.fg tq) mv)) (hjs : ∀ j ∈ js, j ∈ own.map (·.2) := by decide) (hjs1 : ∀ j ∈ js1, j ∈ vs1 := by decide)
    (hs : ∀ x, foldedSetIterable iter X.env x = pure x := by intro _; rfl) (hs1 : ∀ env x, foldedSetIterable iter1 env x = pure x := by intro _ _; rfl) :
    PE X (.DictComp kx vx [⟨tg, iter, ifs, 0⟩, ⟨tg1, iter1, ifs1, 0⟩] scope pos) (tOf (X.fg tq) (mDc (mLc2 mi bind test mi1 bind1 test1 (mPair mk mv) (own.map (·.2)) vs1))) := PE.imp (pe_dn2 (tq := tq) hu hc hN hi ok hv hg ht hi1 hg1 ht1 hk hvx hs hs1) (tCC2_of hjs hjs1 hv)
end
end PB

set_option maxHeartbeats 4000000
/-! Own layer, further: how many unlike numbers or texts there are: len(set(list)), len({.. for ..}). -/
namespace PB
open PySem PySem.Spec PyProof.Rows L2
def hasU (M : List Key) (k : Key) : Bool := M.any fun j => decide (j = k)
def addU (M : List Key) (k : Key) : List Key := if hasU M k = true then M else M ++ [k]
def uniqK (ks : List Key) : List Key := ks.foldl addU []
theorem hasU_iff {M : List Key} {k : Key} : hasU M k = true ↔ k ∈ M := by
  unfold hasU
  rw [List.any_eq_true]
  constructor
  · rintro ⟨j, h1, h2⟩
    rw [decide_eq_true_eq] at h2
    rwa [← h2]
  · exact fun h => ⟨k, h, by simp⟩
theorem uniqK_snoc (l : List Key) (k : Key) : uniqK (l ++ [k]) = addU (uniqK l) k := by
  unfold uniqK
  rw [List.foldl_append]
  rfl
theorem addU_len (M : List Key) (k : Key) : (addU M k).length ≤ M.length + 1 := by
  unfold addU
  split
  · omega
  · rw [List.length_append]; exact Nat.le_refl _
theorem foldU_len : ∀ (l M : List Key), (l.foldl addU M).length ≤ M.length + l.length
  | [], M => Nat.le_refl _
  | k :: l, M => by
    have h1 := foldU_len l (addU M k)
    have h2 := addU_len M k
    rw [List.foldl_cons, List.length_cons]
    omega
theorem uniqK_len (l : List Key) : (uniqK l).length ≤ l.length := by
  have := foldU_len l []
  unfold uniqK
  simpa using this
/-- a set with these members -/
abbrev UOf (P : Program) (w : World) (h : Heap) (a : Addr) (M : List Key) : Prop := h.SetOf (mixKind P w) a (hasU M) M.length
theorem uOf_add {P : Program} {w : World} {h : Heap} {a : Addr} {M : List Key} {k : Key} (R : h.SetOf (mixKind P w) a (fun k' => hasU M k' || decide (k' = k)) (if hasU M k = true then M.length else M.length + 1)) : UOf P w h a (addU M k) := by
  have e1 : (fun k' => hasU M k' || decide (k' = k)) = hasU (addU M k) := by
    funext k'
    unfold addU
    cases h : hasU M k with
    | true =>
      rw [if_pos rfl]
      by_cases e : k' = k
      · subst e; simp [h]
      · simp [e]
    | false =>
      rw [if_neg Bool.false_ne_true]
      unfold hasU
      rw [List.any_append]
      simp only [List.any_cons, List.any_nil, Bool.or_false]
      congr 1
      by_cases e : k' = k
      · subst e; simp
      · have e3 : ¬ k = k' := fun z => e z.symm
        simp [e, e3]
  have e2 : (if hasU M k = true then M.length else M.length + 1) = (addU M k).length := by
    unfold addU
    cases h : hasU M k with
    | true => rfl
    | false => simp
  rw [e1, e2] at R
  exact R
section
variable {P : Program} {w : World} {A : Around} {E : Value → Shared → Prop} {s : Shared}
theorem fillK {I : Addr} {fp wr : List Addr} {G : Array GenState → Array GenState → Prop} {n : Nat} {Pv : Nat → Value → Prop} {St : Nat → Shared → Prop} {R : Result → Shared → Prop}
    (W : WalksS P w A.in1 I fp wr G n Pv St) (S : Addr) (hS : S ∉ fp) (ks : List Key) (hn : n = ks.length) (few : ks.length < 64) (val : ∀ i v, Pv i v → ∃ m, ks[i]? = some m ∧ RelV (kV m) v) :
    ∀ (k i : Nat) (s : Shared), n - i = k → i ≤ n → St i s → UOf P w s.heap S (uniqK (ks.take i)) →
      (∀ s', Moved (S :: wr) G s s' → UOf P w s'.heap S (uniqK (ks.take n)) → R (.ok (.ret .none)) s') →
      codeAny (model P w) A (.builtin "set.update.loop" ⟨[.ref S, .ref I], []⟩) R s := by
  have nw : S ∉ wr := fun z => hS (W.sub _ z)
  have up : ∀ b ∈ wr, b ∈ S :: wr := fun b hb => List.mem_cons_of_mem _ hb
  intro k
  induction k with
  | zero =>
    intro i s hki hi st R1 fin
    obtain rfl : i = n := by omega
    refine codeAny_builtin F.entry_set_update_loop ?_
    rw [Around.under_plainId F.plain_set_update_loop _]
    refine wpAny_bind (m := pyNext (.ref I)) (W.done s _ _ st fun s' mv => ?_)
    exact wpAny_pure (fin s' (mv.mono up) (setOf_at R1 fun o e => mv.heap S o nw e))
  | succ k ih =>
    intro i s hki hi st R1 fin
    have lt : i < n := by omega
    refine codeAny_builtin F.entry_set_update_loop ?_
    rw [Around.under_plainId F.plain_set_update_loop _]
    refine wpAny_bind (m := pyNext (.ref I)) (W.item i s _ _ lt st fun v s' pv st' mv => ?_)
    obtain ⟨x, hx, rx⟩ := val i v pv
    have R2 : UOf P w s'.heap S (uniqK (ks.take i)) := setOf_at R1 fun o e => mv.heap S o nw e
    refine wpAny_bind (m := holding [v] (setAdd S v)) (wpAny_holding ?_)
    unfold setAdd
    refine wpAny_holding (wpAny_bind ((mixKind P w).pyHash (k := x) (kV_is rx) ?_))
    have hl := uniqK_len (ks.take i)
    rw [List.length_take] at hl
    refine wpAny_setAddHashed_of (knd := mixKind P w) (s := { s' with toks := s'.toks + 1 }) (kV_is rx) (key_scan rx) R2 (by unfold scanBound; omega) fun h' sb R3 => ?_
    have R4 := uOf_add R3
    have et : ks.take (i + 1) = ks.take i ++ [x] := by rw [List.take_succ, hx]; rfl
    rw [← uniqK_snoc, ← et] at R4
    refine wpAny_pure ⟨plainId_quiet F.plain_set_update_loop _, ih (i + 1) _ (by omega) lt (W.frame _ s' _ _ st' (Nat.le_add_right _ _) fun b hb o e => ?_) R4 fun s2 mv2 R5 => ?_⟩
    · rw [sb.2 b (fun z : b = S => hS (z ▸ hb))]
      exact e
    · refine fin s2 (Moved.trans W.gtrans ((mv.mono up).then_heap (Nat.le_add_right _ _) fun b o hb e => ?_) mv2) R5
      rw [sb.2 b (fun z : b = S => hb (z ▸ List.mem_cons_self))]
      exact e
theorem uOf_none {h : Heap} {a : Addr} (ho : h.get? a = some (set0 w)) : UOf P w h a [] := by
  refine ⟨_, #[], 0, _, ho, ⟨rfl, rfl, rfl⟩, rfl, fun e he => by simp at he, fun k => by simp [hasU], by unfold scanBound; decide, rfl, rfl⟩
/-- set(xs), xs a list of numbers, texts -/
theorem call_setK {l : Addr} {its : Array Value} (ks : List Key) {Q : Value → Shared → Prop} (hh : A.handled = none) (hl : s.heap.IsList l its) (hit : Vals (ks.map kV) its.toList) (few : ks.length < 64)
    (fin : ∀ (h' : Heap) (tk : Nat), UOf P w h' s.heap.objs.size (uniqK ks) → (∀ b o, s.heap.get? b = some o → h'.get? b = some o) → Q (.ref s.heap.objs.size) { s with heap := h', toks := tk }) :
    wpAny (model P w) A (call (.type "set") [.ref l]) Q E s := by
  have hz : its.size = ks.length := by rw [← Array.length_toList, ← hit.length, List.length_map]
  obtain ⟨c, tl, hmro⟩ := F.called_set.mro
  have hmade := F.called_set.made
  have hsub := F.called_set.sub
  refine wpAny_call (codeAny_of_tree ?_)
  show wpAny _ _ (callAny (.type "set") _) _ _ _
  refine wpAny_pure ⟨Code.quiet_builtin _ (by decide +kernel), codeAny_builtin F.entry_type_call ?_⟩
  rw [Around.under_plain (weight_type_call_type "set" [.ref l] []) rfl]
  have h1 := F.called_set.notType
  have h2 := F.called_set.canCreate
  have hct := F.typeCall_set_1 (.ref l)
  repeat (any_goals (first | assumption | wp_step))
  refine codeAny_mono (code_set_led1 (.ref l) (E := E) (Q₁ := fun obj s₁ => obj = .ref s.heap.objs.size ∧ s₁ = { s with heap := s.heap.push (set0 w) }) ⟨rfl, rfl⟩) fun r s₁ hr => ?_
  cases r with
  | error e => exact hr
  | ok fl =>
    cases fl with
    | ret obj =>
      obtain ⟨rfl, rfl⟩ := hr
      have hS : (s.heap.push (set0 w)).get? s.heap.objs.size = some (set0 w) := Heap.get?_push_size _ rfl
      have hT : Shared.TypeIs { s with heap := s.heap.push (set0 w) } (.ref s.heap.objs.size) "set" := ⟨_, hS, rfl⟩
      have hli := F.called_set.init.lookup
      have hbi := F.called_set.init.bind (.ref s.heap.objs.size)
      repeat (any_goals (first | assumption | wp_step))
      refine codeAny_mono (codeAny_call_builtin (R := wants (fun r s₂ => r = .none ∧ ∃ h' tk, s₂ = { s with heap := h', toks := tk } ∧ UOf P w h' s.heap.objs.size (uniqK ks) ∧
          (∀ b o, s.heap.get? b = some o → h'.get? b = some o)) E) F.called_set.init.plain F.entry_set_init (check_set_init_1 hT ?_)) fun r₂ s₂ hr₂ => ?_
      · have h3 : A.in1.in1.in1.handled = none := by simp [hh]
        have val : ∀ (i : Nat) (v : Value), its[i]? = some v → ∃ m, ks[i]? = some m ∧ RelV (kV m) v := fun i v hv => by
          rw [← Array.getElem?_toList] at hv
          obtain ⟨y, q1, q2⟩ := paired_get hit hv
          rw [List.getElem?_map, Option.map_eq_some_iff] at q1
          obtain ⟨m, q3, rfl⟩ := q1
          exact ⟨m, q3, q2⟩
        have z1 : (s.heap.push (set0 w)).objs.size = s.heap.objs.size + 1 := Heap.size_push ..
        have low : l < s.heap.objs.size := by
          obtain ⟨o, q, _⟩ := hl
          exact Heap.lt_size q
        have ne : l ≠ (s.heap.push (set0 w)).objs.size := by
          rw [z1]
          exact Nat.ne_of_lt (Nat.lt_succ_of_lt low)
        have nS : s.heap.objs.size ∉ [(s.heap.push (set0 w)).objs.size, l] := by
          rw [z1, List.mem_cons, List.mem_singleton, not_or]
          exact ⟨Nat.ne_of_lt (Nat.lt_succ_self _), Nat.ne_of_gt low⟩
        obtain ⟨ol, hol, hcl, nl, hdl⟩ := hl
        obtain ⟨oc, od, odt, osl⟩ := ol
        simp only at hcl hdl
        subst hcl hdl
        have hol' : (s.heap.push (set0 w)).get? l = some { cls := .type "list", dict := od, data := .seq its nl, slots := osl } := Heap.get?_push_of_some _ hol
        have e1 := F.sub_list_set
        have e2 := F.sub_list_frozenset
        have e3 : (Value.type "list" == Value.type "dict") = false := by decide
        have hl1 : (s.heap.push (set0 w)).IsList l its := ⟨_, hol', rfl, nl, rfl⟩
        unfold Builtin.«set.__init__» noKeywords Builtin.Frozenset.updateFrom
        generalize hPI : pyIter = PI
        wp_walk
        subst hPI
        refine wpAny_pyIter_list hl1 (wpAny_bind (wpAny_runValue ?_))
        refine fillK ((Walks.list h3 _ l ne its).toS) s.heap.objs.size nS ks hz few val (its.size - 0) 0 _ (by omega) (Nat.zero_le _) ⟨⟨_, Heap.get?_push_size _ rfl, rfl, rfl⟩, hl1.push _⟩ (uOf_none (Heap.get?_push_of_some _ hS)) ?_
        intro s' mv R
        obtain ⟨h', g2, d', tk', os'⟩ := s'
        cases (show g2 = s.gens from mv.gens)
        cases (show d' = s.drawn from mv.drawn)
        cases (show os' = s.os from mv.os)
        rw [hz, List.take_length] at R
        refine wpAny_pure (wpAny_pure ⟨rfl, h', tk', rfl, R, fun b o e => ?_⟩)
        have hb : b < s.heap.objs.size := Heap.lt_size e
        refine mv.heap b o ?_ (Heap.get?_push_of_some _ (Heap.get?_push_of_some _ e))
        rw [List.mem_cons, List.mem_singleton, z1, not_or]
        exact ⟨Nat.ne_of_lt hb, Nat.ne_of_lt (Nat.lt_succ_of_lt hb)⟩
      · cases r₂ with
        | error e => exact hr₂
        | ok fl₂ =>
          cases fl₂ with
          | ret r =>
            obtain ⟨rfl, h', tk, rfl, R, kp⟩ := hr₂
            repeat (any_goals (first | assumption | wp_step))
            exact fin _ _ R kp
          | _ => exact hr₂.elim
    | _ => exact hr.elim
end
end PB

set_option maxHeartbeats 4000000
/-! Own layer, further: len(set(list)), len({.. for ..}), by data. -/
namespace PB
open PySem PySem.Spec PyProof.Rows L2
abbrev SetU (P : Program) (w : World) (a : Addr) (M : List Key) : HO := SetK P w a (hasU M) M.length
theorem set_ne_code {P : Program} {w : World} {a : Addr} {S : Key → Bool} {n : Nat} {q : Str} : SetK P w a S n ≠ LamX.CodeO a q := by
  intro e
  unfold SetK LamX.CodeO at e
  have e' := HO.ext.inj e
  have hg : ({ objs := Array.replicate (a + 1) (⟨.none, none, .fields #[.none, .str q 0], #[]⟩ : Obj) } : Heap).get? a = some ⟨.none, none, .fields #[.none, .str q 0], #[]⟩ := by
    unfold Heap.get?
    simp
  have c := congrFun e' ({ objs := Array.replicate (a + 1) (⟨.none, none, .fields #[.none, .str q 0], #[]⟩ : Obj) } : Heap)
  have c2 : Heap.SetOf (mixKind P w) ({ objs := Array.replicate (a + 1) (⟨.none, none, .fields #[.none, .str q 0], #[]⟩ : Obj) } : Heap) a S n := by
    rw [c]
    exact ⟨_, _, _, hg, rfl, rfl⟩
  obtain ⟨o, es, ep, t, ho, _, hd, _⟩ := c2
  rw [hg] at ho
  cases ho
  cases hd
def leafs : List D → Option (List Key)
  | [] => some []
  | d :: r => (leafK d).bind fun k => (leafs r).map (k :: ·)
theorem leafs_dp {K : Frag} {H : Hp} : ∀ {ds : List D} {vs : List V} {ks : List Key}, DpAll K H vs ds → leafs ds = some ks → vs = ks.map kV
  | [], _, ks, .nil, h => by cases h; rfl
  | d :: ds, _, ks, .cons h1 h2, h => by
    have h' : ((leafK d).bind fun k => (leafs ds).map (k :: ·)) = some ks := h
    obtain ⟨k, e1, h'⟩ := Option.bind_eq_some_iff.mp h'
    obtain ⟨r, e2, rfl⟩ := Option.map_eq_some_iff.mp h'
    rw [List.map_cons, ← leafs_dp h2 e2, leaf_dp h1 e1]
theorem leafs_app : ∀ {a b : List D} {ps : List Key}, leafs (a ++ b) = some ps → ∃ pa pb, leafs a = some pa ∧ leafs b = some pb ∧ ps = pa ++ pb
  | [], b, ps, h => ⟨[], ps, rfl, h, rfl⟩
  | d :: a, b, ps, h => by
    have h' : ((leafK d).bind fun p => (leafs (a ++ b)).map (p :: ·)) = some ps := h
    obtain ⟨p, h1, h'⟩ := Option.bind_eq_some_iff.mp h'
    obtain ⟨r, h2, rfl⟩ := Option.map_eq_some_iff.mp h'
    obtain ⟨pa, pb, e1, e2, rfl⟩ := leafs_app h2
    refine ⟨p :: pa, pb, ?_, e2, rfl⟩
    show ((leafK d).bind fun p => (leafs a).map (p :: ·)) = _
    rw [h1, e1]
    rfl
theorem leafs_len : ∀ {a : List D} {pa : List Key}, leafs a = some pa → pa.length = a.length
  | [], pa, h => by cases h; rfl
  | d :: a, pa, h => by
    have h' : ((leafK d).bind fun p => (leafs a).map (p :: ·)) = some pa := h
    obtain ⟨p, h1, h'⟩ := Option.bind_eq_some_iff.mp h'
    obtain ⟨r, h2, rfl⟩ := Option.map_eq_some_iff.mp h'
    rw [List.length_cons, List.length_cons, leafs_len h2]
theorem leafs_snoc {a : List D} {d : D} {pa : List Key} {p : Key} (h1 : leafs a = some pa) (h2 : leafK d = some p) : leafs (a ++ [d]) = some (pa ++ [p]) := by
  induction a generalizing pa with
  | nil =>
    cases h1
    show ((leafK d).bind fun p => (leafs []).map (p :: ·)) = _
    rw [h2]
    rfl
  | cons x a ih =>
    have h' : ((leafK x).bind fun p => (leafs a).map (p :: ·)) = some pa := h1
    obtain ⟨q, e1, h'⟩ := Option.bind_eq_some_iff.mp h'
    obtain ⟨r, e2, rfl⟩ := Option.map_eq_some_iff.mp h'
    show ((leafK x).bind fun p => (leafs (a ++ [d])).map (p :: ·)) = _
    rw [e1, ih e2]
    rfl
def cntU (ds : List D) : Option D := (leafs ds).bind fun ks => if ks.length < 64 then some (.int (uniqK ks).length) else none
theorem cntU_some {ds : List D} {d : D} (h : cntU ds = some d) : ∃ ks, leafs ds = some ks ∧ ks.length < 64 ∧ d = .int (uniqK ks).length := by
  unfold cntU at h
  obtain ⟨ks, e, h⟩ := Option.bind_eq_some_iff.mp h
  split at h
  · rename_i hl
    cases h
    exact ⟨ks, e, hl, rfl⟩
  · cases h
def listO : D → Option (List D)
  | .list ds => some ds
  | _ => none
def mLstO (a : ME) : ML := fun e => (a e).bind fun r => (listO r.1).map fun ds => (ds, r.2)
def mLenU (ml : ML) : ME := fun e => (ml e).bind fun r => (cntU r.1).map fun d => (d, r.2)
section
variable {X : Cx} {K : Frag}
/-- set(list) -/
def rSetL (K : Frag) : List V → Hp → VK → Prop := fun xs H Q => ∃ (l : Addr) (ks : List Key), xs = [.ref l] ∧ SqL K.K H l (ks.map kV) ∧ ks.length < 64 ∧ ∀ p, H p = none → Q (.ref p) (upd H p (SetU K.P K.w p (uniqK ks)))
theorem cr_setL (hc : X.calm = true) : CallR X (.type "set") (rSetL (X.fg tq)) := fun pins s σ H xs us Q I r h => by
  obtain ⟨l, ks, rfl, hq, few, q⟩ := h
  rw [Vals.ref1 r]
  obtain ⟨its, rv, pl, hz⟩ := I.list hq
  refine call_setK ks (I.ok.hd hc) pl.isList (by simpa using rv) few fun h' tk R kp => ?_
  exact ⟨.ref _, _, I.laid (t' := tk) (fun b u e => kp b u e) (Nat.le_refl _) (setK_new R), rfl, q _ (I.hok.fresh (Nat.le_refl _))⟩
/-- len(set) -/
def rLenU (P : Program) (w : World) : List V → Hp → VK → Prop := fun xs H Q => ∃ (a : Addr) (S : Key → Bool) (n : Nat), xs = [.ref a] ∧ H a = some (SetK P w a S n) ∧ Q (.int n) H
theorem cr_lenU : CallR X (.builtin "len") (rLenU X.prog X.w) := fun pins s σ H xs us Q I r h => by
  obtain ⟨a, S, n, rfl, ha, q⟩ := h
  rw [Vals.ref1 r]
  obtain ⟨o, es, ep, t, ho, hex, hd, _, _, hb, hf, hn⟩ := setK_get I ha
  refine call_len_set ho hex hd hf ?_ ⟨.int n, H, I.tok _, ⟨_, by rw [hn]⟩, q⟩
  have : scanBound = 4096 := rfl
  omega
/-- len(e), e a new set -/
theorem je_lenU {a : Expr} {ta : TE} {ml : ML} {p pos : Pos} (hg : Gl X "len") (hm : X.mg "len" = none) (ha : PE X a ta)
    (hi : ∀ σ H Q, (∃ G e ds e' ks, Rel (X.fg tq) G σ H e ∧ ml e = some (ds, e') ∧ leafs ds = some ks ∧ ks.length < 64 ∧ ∀ q H', Step σ e H σ e' H' → Rel (X.fg tq) G σ H' e' → H' q = some (SetU X.prog X.w q (uniqK ks)) → Q (.ref q) H') → ta σ H Q)
    (he : starEach [a] X.env = (false, eval a X.env) :: starEach [] X.env := by rfl) (hpl : (backTo pos (starEach [] X.env)).any (·.1) = false := by rfl) :
    PE X (.Call (.Name "len" p) [a] [] pos) (tOf (X.fg tq) (mLenU ml)) := by
  refine PE.imp (pe_callB cr_lenU hg hm PySem.boot_len (pa_cons ha pa_nil he) (by decide) (by decide) he hpl) ?_
  rintro σ H Q ⟨G, e, d, e', rel, hm, k⟩
  obtain ⟨⟨ds, e1⟩, h1, hm⟩ := Option.bind_eq_some_iff.mp hm
  obtain ⟨z, h2, hm⟩ := Option.map_eq_some_iff.mp hm
  obtain ⟨rfl, rfl⟩ := Prod.mk.inj hm
  obtain ⟨ks, e1, e2, rfl⟩ := cntU_some h2
  exact hi σ H _ ⟨G, e, ds, _, ks, rel, h1, e1, e2, fun q H' st r hq => ⟨q, _, _, rfl, hq, k _ _ st r (.int _)⟩⟩
theorem je_lenSet {a : Expr} {ma : ME} {p p2 q2 pos : Pos} (hc : X.calm = true) (hg : Gl X "len") (hm : X.mg "len" = none) (hg2 : Gl X "set") (hm2 : X.mg "set" = none) (ha : PE X a (tOf (X.fg tq) ma))
    (he : starEach [a] X.env = (false, eval a X.env) :: starEach [] X.env := by rfl) (hpl : (backTo q2 (starEach [] X.env)).any (·.1) = false := by rfl) (he2 : starEach [.Call (.Name "set" p2) [a] [] q2] X.env = (false, eval (.Call (.Name "set" p2) [a] [] q2) X.env) :: starEach [] X.env := by rfl) (hpl2 : (backTo pos (starEach [] X.env)).any (·.1) = false := by rfl) :
    PE X (.Call (.Name "len" p) [.Call (.Name "set" p2) [a] [] q2] [] pos) (tOf (X.fg tq) (mLenU (mLstO ma))) := by
  refine je_lenU hg hm (pe_callTy (cr_setL (tq := tq) hc) hg2 hm2 boot_set (pa_cons ha pa_nil he) (by decide) (by decide) he hpl) ?_ he2 hpl2
  rintro σ H Q ⟨G, e, ds, e', ks, rel, hm, hk, hl, k⟩
  obtain ⟨⟨d1, e1⟩, h1, hm⟩ := Option.bind_eq_some_iff.mp hm
  obtain ⟨z, h2, hm⟩ := Option.map_eq_some_iff.mp hm
  obtain ⟨rfl, rfl⟩ := Prod.mk.inj hm
  refine ⟨G, e, d1, _, rel, h1, fun v H1 s1 r1 dp => ?_⟩
  have h2' : listO d1 = some z := h2
  cases d1 with
  | list ds =>
    cases h2'
    obtain ⟨l, xs, rfl, q1, t1⟩ := dp_list dp
    have ex := leafs_dp t1 hk
    subst ex
    refine ⟨l, ks, rfl, same_cut.seq q1, hl, fun q hq => k q _ (s1.trans (.grow (same_new hq))) (r1.grow (same_new hq)) upd_same⟩
  | _ => cases h2'
/-! ### set comprehensions -/
def bSetU (P : Program) (w : World) (Dn : Addr) (te : TE) : SS → Hp → (Hp → Prop) → Prop := fun σ2 H3 Nx => te σ2 H3 fun y H4 => ∃ M k, y = kV k ∧ H4 Dn = some (SetU P w Dn M) ∧ M.length < 4000 ∧ Nx (upd H4 Dn (SetU P w Dn (addU M k)))
def wSetU (prog : Program) (w : World) (A : Around) (elt : Expr) (env : Env) (acc : Value) : BW := fun E s P => wpAny (model prog w) A (eval elt env) (fun x s4 => wpAny (model prog w) A (call (.builtin "set.add") [acc, x]) (fun _ s5 => P s5) E s4) E s
theorem body_set {Y : Cx} {vs : List Nat} {elt : Expr} {te : TE} {Dn : Addr} (hx : Y.xe = fun _ _ => False) (he : PE Y elt te) : BodyOk Y vs (wSetU Y.prog Y.w Y.A elt Y.env (.ref Dn)) (bSetU Y.prog Y.w Dn te) := by
  intro E pins s σ H Nx P I h fin
  have her := he.run
  rw [hx] at her
  refine thnF (her pins s σ H _ I h) fun x s4 h4 => ?_
  obtain ⟨y, H4, I4, ry, M, k, rfl, hD, hl, nx⟩ := h4
  refine call_set_add (kV_is ry) (key_scan ry) (setK_get I4 hD) (by unfold scanBound; omega) fun h' sb R => ?_
  have R2 := uOf_add R
  have ht : ∃ u, h'.get? Dn = some u := by
    obtain ⟨o, _, _, _, ho, _⟩ := R2
    exact ⟨o, ho⟩
  exact fin _ _ _ (I4.write (e := Dn) (t' := s4.toks + 1) (o := SetU Y.prog Y.w Dn (addU M k)) (by rw [hD]; trivial) (.inl rfl) (fun b u hb hu => (sb.2 b hb).trans hu) ht (setK_new R2)) rfl (fun _ _ _ z => z) nx
theorem starts_set {elt t i : Expr} {f : List Expr} {gs : List Comprehension} {scope : Scope} {pos : Pos} {prog : Program} {w : World} {A : Around} : Starts prog w A (.SetComp elt (⟨t, i, f, 0⟩ :: gs) scope pos) :=
  ⟨fun it acc env R s a b => PpSet.codeAny_compStart_set a b⟩
theorem looper_set {prog : Program} {w : World} {A : Around} {elt tg iter : Expr} {ifs : List Expr} {scope : Scope} {pos : Pos} {it acc : Value} {env : Env} : Looper prog w A (.SetComp elt [⟨tg, iter, ifs, 0⟩] scope pos) 0 it acc env tg ifs (wSetU prog w A elt env acc) :=
  fun R Iv turn n s hI => PpSet.compLoopS_any Iv turn n hI
theorem pe_su1 {elt tg iter : Expr} {ifs : List Expr} {scope : Scope} {own : List (Str × Nat)} {pos : Pos} {wi : TI} {g : TG} {tt : TT} {te : TE} (hc : X.calm = true) (hN : X.N.Nodup) (hi : PI X tg iter wi) (ok : BlkOk X.N X.env.scope scope own)
    (hg : ∀ (s : Shared) (H : Hp) (C : Addr) (cl : List (Str × Addr)) (fp : List Addr), PG (X.blk s H scope (compEnvC scope cl C X.env) fp) tg g) (ht : ∀ (s : Shared) (H : Hp) (C : Addr) (cl : List (Str × Addr)) (fp : List Addr), PTs (X.blk s H scope (compEnvC scope cl C X.env) fp) ifs tt)
    (he : ∀ (s : Shared) (H : Hp) (C : Addr) (cl : List (Str × Addr)) (fp : List Addr), PE (X.blk s H scope (compEnvC scope cl C X.env) fp) elt te) (hs : ∀ x, foldedSetIterable iter X.env x = pure x := by intro _; rfl) :
    PE X (.SetComp elt [⟨tg, iter, ifs, 0⟩] scope pos) (tComp wi (fun Dn => SetU X.prog X.w Dn []) fun J Dn σ H Z => tClause J g tt (bSetU X.prog X.w Dn te) (own.map (·.2)) σ H Z) := by
  refine ⟨fun pins s σ H Q I h => ?_⟩
  rw [PpSet.eval_SetComp]
  refine comp_core (gs := []) rfl starts_set (ob := set0 X.w) (fun s Q q => PpSet.newSet_ok q) (fun hb H' big => setK_new (uOf_none (Heap.get?_push_size _ rfl))) (fun hb b o e => Heap.get?_push_of_some _ e) (fun hb => Heap.size_push _ _) hN I hi ok hs ?_ h
  intro s3 s4 H3 C it Dn cl fp tn J Z T I4 st4 n4 q
  exact blk_loop (Y := X.blk s3 H3 scope (compEnvC scope cl C X.env) fp) (bw := wSetU X.prog X.w X.A elt (compEnvC scope cl C X.env) (.ref Dn)) hc rfl T blk_fp (hg s3 H3 C cl fp) (ht s3 H3 C cl fp) (body_set rfl (he s3 H3 C cl fp)) looper_set I4 st4 n4 q
/-- a set that has these members so far -/
def HeldU (M : List Key) (da : List D) : Prop := ∃ pa, leafs da = some pa ∧ M = uniqK pa
theorem tSC_of {mi : ML} {bind : MG} {test : MT} {me : ME} {vs js : List Nat} (hjs : ∀ j ∈ js, j ∈ vs) :
    ∀ σ H Q, (∃ G e ds e' ks, Rel K G σ H e ∧ mLc mi bind test me vs e = some (ds, e') ∧ leafs ds = some ks ∧ ks.length < 64 ∧ ∀ q H', Step σ e H σ e' H' → Rel K G σ H' e' → H' q = some (SetU K.P K.w q (uniqK ks)) → Q (.ref q) H') →
      tComp (tIOf K fl mi) (fun Dn => SetU K.P K.w Dn []) (fun J Dn σ H Z => tClause J (tGOf K fl js bind) (tTOf K test) (bSetU K.P K.w Dn (tOf K me)) vs σ H Z) σ H Q := by
  rintro σ H Q ⟨G, e, out0, e', ks, rel, hl, hks, hk64, k⟩
  obtain ⟨⟨items, e1⟩, h1, hm⟩ := Option.bind_eq_some_iff.mp hl
  simp only at hm
  split at hm
  case isFalse => cases hm
  rename_i hz
  obtain ⟨e0, h0, hm⟩ := Option.bind_eq_some_iff.mp hm
  obtain ⟨⟨out, eF⟩, hgo, hm⟩ := Option.map_eq_some_iff.mp hm
  obtain ⟨rfl, rfl⟩ := Prod.mk.inj hm
  obtain ⟨hn, rfl⟩ := wipeC_some h0
  refine ⟨G, e, items, e1, rel, h1, fun J H1 s1 r1 wk Dl hD => ?_⟩
  refine ⟨fun i m H' => m = items.length - i ∧ i ≤ items.length ∧ ∃ (ei : Sg) (M : List Key) (da rest : List D), Rel K (fun a => G a ∨ a = Dl) (wipe σ vs) H' ei ∧ (∀ i ∈ vs, ∀ s, ei[i]? ≠ some (some s)) ∧
      Step (wipe σ vs) (wipeE e1 vs) H1 (wipe σ vs) ei H' ∧ H' Dl = some (SetU K.P K.w Dl M) ∧ HeldU M da ∧ lcGo bind test me vs (items.drop i) ei = some (rest, eF) ∧ da ++ rest = out,
    ⟨items.length, by simp, Nat.zero_le _, wipeE e1 vs, [], [], out, (r1.wiped hn).foreign hD, wiped_none, Step.refl.other hD, upd_same, ⟨[], rfl, rfl⟩, by simpa using hgo, rfl⟩, ?_⟩
  rintro i m H2 ⟨rfl, hi, ei, M, da, rest, ri, hei, st, hDl, dacc, hgo', hout⟩
  obtain ⟨b1, b2, b3⟩ := back hn r1 hD ri hei st
  have seen : Same (vis G σ e1 H1) (vis (fun a => G a ∨ a = Dl) (wipe σ vs) ei H2) := fun a o h => by
    obtain ⟨q1, q2⟩ := cut_mp h
    have hne : a ≠ Dl := ne_of_none q2 hD
    refine cut_of ?_ (st.keep a o q2 (fun w => q1 (.inr (own_wiped w))) (cut_nt h)) (cut_nt h)
    rintro ((w | w) | w)
    · exact q1 (.inl w)
    · exact hne w
    · rcases st.new a w with z | z
      · exact q1 (.inr (own_wiped z))
      · rw [q2] at z; cases z
  by_cases hlt : i < items.length
  · refine .inr ⟨wk.go i H2 (seen.trans same_cut) hlt, ?_⟩
    rw [List.drop_eq_getElem_cons hlt] at hgo'
    unfold lcGo at hgo'
    obtain ⟨e2, hb, hgo'⟩ := Option.bind_eq_some_iff.mp hgo'
    obtain ⟨⟨t, e3⟩, ht, hgo'⟩ := Option.bind_eq_some_iff.mp hgo'
    refine ⟨fun H' => ∃ m', m' < items.length - i ∧ (m' = items.length - (i + 1) ∧ i + 1 ≤ items.length ∧ ∃ (ei : Sg) (M : List Key) (da rest : List D), Rel K (fun a => G a ∨ a = Dl) (wipe σ vs) H' ei ∧ (∀ i ∈ vs, ∀ s, ei[i]? ≠ some (some s)) ∧
      Step (wipe σ vs) (wipeE e1 vs) H1 (wipe σ vs) ei H' ∧ H' Dl = some (SetU K.P K.w Dl M) ∧ HeldU M da ∧ lcGo bind test me vs (items.drop (i + 1)) ei = some (rest, eF) ∧ da ++ rest = out), fun H' h => h, fun x H3 hy => ?_⟩
    obtain ⟨sm3, dx⟩ := wk.yld i H2 (fun a => (G a ∨ a = Dl) ∨ Own (wipe σ vs) ei a) x H3 items[i] seen ri.ne0 (List.getElem?_eq_getElem hlt) hy
    refine ⟨fun a => G a ∨ a = Dl, ei, items[i], e2, ri.grow sm3, dx, hb, fun σ2 k2 l2 s2 r2 => ?_⟩
    have hws : wipe σ2 vs = wipe σ vs := (wipe_ext l2 fun j hj => k2 j fun w => hj (hjs j w)).trans (wipe2 σ vs)
    refine ⟨hws, fun a => G a ∨ a = Dl, e2, t, e3, r2, ht, fun H4 s4 r4 => ?_⟩
    have g4 : Step (wipe σ vs) ei H2 σ2 e3 H4 := ((Step.grow (e := ei) sm3).trans s2).trans s4
    have D4 : H4 Dl = some (SetU K.P K.w Dl M) := g4.keep Dl _ hDl ri.notOwn rfl
    cases t with
    | true =>
      rw [if_pos rfl] at hgo'
      obtain ⟨⟨y, e4⟩, he, hgo'⟩ := Option.bind_eq_some_iff.mp hgo'
      obtain ⟨e5, hw5, hgo'⟩ := Option.bind_eq_some_iff.mp hgo'
      obtain ⟨⟨rest', eF'⟩, hrest, hgo'⟩ := Option.map_eq_some_iff.mp hgo'
      obtain ⟨rfl, rfl⟩ := Prod.mk.inj hgo'
      obtain ⟨hn5, rfl⟩ := wipeC_some hw5
      obtain ⟨pa, hpa, rfl⟩ := dacc
      have hks2 := hks
      rw [← hout] at hks2
      obtain ⟨pa', pb, z1, z2, z3⟩ := leafs_app hks2
      rw [hpa] at z1
      cases z1
      have z2' : ((leafK y).bind fun p => (leafs rest').map (p :: ·)) = some pb := z2
      obtain ⟨kk, z5, _⟩ := Option.bind_eq_some_iff.mp z2'
      have hlen : pa.length < 64 := by
        have := congrArg List.length z3
        rw [List.length_append] at this
        omega
      have hul := uniqK_len pa
      refine iteT ⟨fun a => G a ∨ a = Dl, e3, y, e4, r4, he, fun v H5 s5 r5 dy => ?_⟩
      have D5 : H5 Dl = some (SetU K.P K.w Dl (uniqK pa)) := s5.keep Dl _ D4 r4.notOwn rfl
      have g6 := (g4.trans s5).trans (Step.wiped hn5)
      have r6 := r5.wiped hn5
      rw [hws] at g6 r6
      refine ⟨uniqK pa, kk, leaf_dp dy z5, D5, by omega, items.length - (i + 1), by omega, rfl, by omega, wipeE e4 vs, _, da ++ [y], rest', r6.other2 (.inr rfl) D5 rfl (fun q => set_ne_code), wiped_none, (st.trans g6).other hD, upd_same, ⟨pa ++ [kk], leafs_snoc hpa z5, (uniqK_snoc pa kk).symm⟩, hrest, by rw [List.append_assoc]; exact hout⟩
    | false =>
      rw [if_neg Bool.false_ne_true] at hgo'
      obtain ⟨e5, hw5, hgo'⟩ := Option.bind_eq_some_iff.mp hgo'
      obtain ⟨hn5, rfl⟩ := wipeC_some hw5
      have g6 := g4.trans (Step.wiped hn5)
      have r6 := r4.wiped hn5
      rw [hws] at g6 r6
      exact iteF ⟨items.length - (i + 1), by omega, rfl, by omega, wipeE e3 vs, M, da, rest, r6, wiped_none, st.trans g6, D4, dacc, hgo', hout⟩
  · have hi2 : i = items.length := by omega
    refine .inl ⟨wk.stop i H2 (seen.trans same_cut) (by omega), ?_⟩
    rw [hi2, List.drop_length] at hgo'
    cases hgo'
    rw [List.append_nil] at hout
    subst hout
    obtain ⟨pa, hpa, rfl⟩ := dacc
    rw [hpa] at hks
    cases hks
    exact k Dl H2 (s1.trans b1) b2.tame hDl
theorem je_lenSc {elt tg iter : Expr} {ifs : List Expr} {scope : Scope} {own : List (Str × Nat)} {p pos q2 : Pos} {mi : ML} {bind : MG} {test : MT} {me : ME} {js : List Nat} (hc : X.calm = true) (hN : X.N.Nodup) (hgl : Gl X "len") (hml : X.mg "len" = none) (hi : PI X tg iter (tIOf (X.fg tq) fl mi)) (ok : BlkOk X.N X.env.scope scope own)
    (hg : ∀ (s : Shared) (H : Hp) (C : Addr) (cl : List (Str × Addr)) (fp : List Addr), PG (X.blk s H scope (compEnvC scope cl C X.env) fp) tg (tGOf (X.fg tq) fl js bind)) (ht : ∀ (s : Shared) (H : Hp) (C : Addr) (cl : List (Str × Addr)) (fp : List Addr), PTs (X.blk s H scope (compEnvC scope cl C X.env) fp) ifs (tTOf (X.fg tq) test))
    (he : ∀ (s : Shared) (H : Hp) (C : Addr) (cl : List (Str × Addr)) (fp : List Addr), PE (X.blk s H scope (compEnvC scope cl C X.env) fp) elt (tOf (X.fg tq) me)) (hjs : ∀ j ∈ js, j ∈ own.map (·.2) := by decide) (hs : ∀ x, foldedSetIterable iter X.env x = pure x := by intro _; rfl)
    (he2 : starEach [.SetComp elt [⟨tg, iter, ifs, 0⟩] scope q2] X.env = (false, eval (.SetComp elt [⟨tg, iter, ifs, 0⟩] scope q2) X.env) :: starEach [] X.env := by rfl) (hpl2 : (backTo pos (starEach [] X.env)).any (·.1) = false := by rfl) :
    PE X (.Call (.Name "len" p) [.SetComp elt [⟨tg, iter, ifs, 0⟩] scope q2] [] pos) (tOf (X.fg tq) (mLenU (mLc mi bind test me (own.map (·.2))))) :=
  je_lenU hgl hml (pe_su1 hc hN hi ok hg ht he hs) (fun σ H Q h => tSC_of (K := X.fg tq) hjs σ H Q h) he2 hpl2
end
end PB

set_option maxHeartbeats 4000000
/-! Own layer, further: groups that hang together, held by a dict and by a list at once (the def linked, by hand). -/
namespace PB
open PySem PySem.Spec PyProof.Rows L2
structure LS where
  gs : List (List Nk)
  m : List (Nk × Nat)
def mAt (m : List (Nk × Nat)) (k : Nk) : Option Nat := (m.find? fun x => decide (x.1 = k)).map (·.2)
def mPut (m : List (Nk × Nat)) (k : Nk) (i : Nat) : List (Nk × Nat) := if (mAt m k).isSome = true then m.map (fun x => if x.1 = k then (x.1, i) else x) else m ++ [(k, i)]
def grpD (g : List Nk) : List D := g.map NestedKey.data
def Gk (k : Nk) : Prop := tkOf k.data = some k
def lkHere (S : LS) (a : Nk) : Option (Nat × LS) := match mAt S.m a with
  | some i => some (i, S)
  | none => if szOk S.m.length = true ∧ szOk S.gs.length = true then some (S.gs.length, ⟨S.gs ++ [[a]], mPut S.m a S.gs.length⟩) else none
def lkJoin (S : LS) (i j : Nat) (gi gj : List Nk) : Option LS := if i ≠ j ∧ szOk (gi.length + gj.length) = true ∧ szOk (S.m.length + gj.length) = true then some ⟨(S.gs.set i (gi ++ gj)).set j [], gj.foldl (fun m k => mPut m k i) S.m⟩ else none
def lkThere (S : LS) (i : Nat) (b : Nk) : Option LS := (S.gs[i]?).bind fun gi => match mAt S.m b with
  | none => if szOk S.m.length = true ∧ szOk gi.length = true then some ⟨S.gs.set i (gi ++ [b]), mPut S.m b i⟩ else none
  | some j => if (SeqAt.shaped b.data && SeqAt.shaped (.list (grpD gi))) = true then (if isIn b.data (grpD gi) = true then some S else (S.gs[j]?).bind fun gj => lkJoin S i j gi gj) else none
def lkStep (S : LS) (a b : Nk) : Option LS := (lkHere S a).bind fun p => lkThere p.2 p.1 b
def lkAll : List (Nk × Nk) → LS → Option LS
  | [], S => some S
  | p :: r, S => (lkStep S p.1 p.2).bind (lkAll r)
/-- the dict's entries: each key's group, by its place -/
inductive MK (K : Frag) (V0 : Hp) (as : List Addr) : List (Nk × Addr × V) → List (Nk × Nat) → Prop
  | nil : MK K V0 as [] []
  | cons {k : Nk} {b a : Addr} {i : Nat} {kvs : List (Nk × Addr × V)} {m : List (Nk × Nat)} : KyH K V0 k b → as[i]? = some a → MK K V0 as kvs m → MK K V0 as ((k, b, .ref a) :: kvs) ((k, i) :: m)
section
variable {K : Frag} {V0 : Hp} {as : List Addr}
theorem MK.more {p : Addr} : ∀ {kvs : List (Nk × Addr × V)} {m : List (Nk × Nat)}, MK K V0 as kvs m → MK K V0 (as ++ [p]) kvs m
  | _, _, .nil => .nil
  | _, _, .cons h1 h2 t => .cons h1 (by rw [List.getElem?_append_left (List.getElem?_eq_some_iff.mp h2).1]; exact h2) t.more
theorem MK.keys : ∀ {kvs : List (Nk × Addr × V)} {m : List (Nk × Nat)}, MK K V0 as kvs m → AllKy K V0 kvs
  | _, _, .nil => fun x hx => by cases hx
  | _, _, .cons h1 h2 t => fun x hx => by
    rcases List.mem_cons.mp hx with q | q
    · subst q; exact h1
    · exact t.keys x q
theorem MK.len : ∀ {kvs : List (Nk × Addr × V)} {m : List (Nk × Nat)}, MK K V0 as kvs m → kvs.length = m.length
  | _, _, .nil => rfl
  | _, _, .cons h1 h2 t => by rw [List.length_cons, List.length_cons, t.len]
theorem MK.at (k : Nk) : ∀ {kvs : List (Nk × Addr × V)} {m : List (Nk × Nat)}, MK K V0 as kvs m → (nAt kvs k = none ∧ mAt m k = none) ∨ ∃ i a, nAt kvs k = some (.ref a) ∧ mAt m k = some i ∧ as[i]? = some a
  | _, _, .nil => .inl ⟨rfl, rfl⟩
  | _, _, .cons (k := k') h1 h2 t => by
    unfold nAt mAt
    rw [List.find?_cons, List.find?_cons]
    by_cases e : k' = k
    · simp only [e, decide_true, Option.map_some]
      exact .inr ⟨_, _, rfl, rfl, h2⟩
    · simp only [e, decide_false]
      exact t.at k
theorem MK.map {k : Nk} {a : Addr} {i : Nat} (hi : as[i]? = some a) : ∀ {kvs : List (Nk × Addr × V)} {m : List (Nk × Nat)}, MK K V0 as kvs m → MK K V0 as (kvs.map fun x => if x.1 = k then (x.1, x.2.1, .ref a) else x) (m.map fun x => if x.1 = k then (x.1, i) else x)
  | _, _, .nil => .nil
  | _, _, .cons (k := k') h1 h2 t => by
    rw [List.map_cons, List.map_cons]
    by_cases e : k' = k
    · rw [if_pos e, if_pos e]; exact .cons h1 hi (t.map hi)
    · rw [if_neg e, if_neg e]; exact .cons h1 h2 (t.map hi)
theorem MK.app : ∀ {a b : List (Nk × Addr × V)} {c d : List (Nk × Nat)}, MK K V0 as a c → MK K V0 as b d → MK K V0 as (a ++ b) (c ++ d)
  | _, _, _, _, .nil, h => h
  | _, _, _, _, .cons h1 h2 t, u => .cons h1 h2 (t.app u)
theorem MK.put {k : Nk} {b a : Addr} {i : Nat} {kvs : List (Nk × Addr × V)} {m : List (Nk × Nat)} (h : MK K V0 as kvs m) (hk : KyH K V0 k b) (hi : as[i]? = some a) : MK K V0 as (nPut kvs k b (.ref a)) (mPut m k i) := by
  unfold nPut mPut
  have e : (nAt kvs k).isSome = (mAt m k).isSome := by
    rcases h.at k with ⟨e1, e2⟩ | ⟨_, _, e1, e2, _⟩ <;> rw [e1, e2] <;> rfl
  rw [e]
  split
  · exact h.map hi
  · exact h.app (.cons hk hi .nil)
end
theorem mPut_len (m : List (Nk × Nat)) (k : Nk) (i : Nat) : (mPut m k i).length ≤ m.length + 1 := by
  unfold mPut
  split
  · rw [List.length_map]; omega
  · rw [List.length_append]; exact Nat.le_refl _
/-- the heap within the loop: H0 the heap ahead of it -/
structure LK (K : Frag) (G0 : Addr → Prop) (H0 : Hp) (pd ps : Addr) (as st : List Addr) (H : Hp) (S : LS) : Prop where
  keep : ∀ a o, H0 a = some o → isT o = false → H a = some o
  there : ∀ a, H a = none → H0 a = none
  tab : LamX.Tabs K.T H
  f1 : H0 pd = none
  f2 : H0 ps = none
  f3 : ∀ a ∈ as, H0 a = none
  n1 : pd ≠ ps
  n2 : pd ∉ as
  n3 : ps ∉ as
  n4 : as.Nodup
  dct : ∃ kvs, H pd = some (DnO K pd kvs) ∧ MK K (cut H0 G0) as kvs S.m
  lst : H ps = some (.lst (st.map V.ref))
  len : as.length = S.gs.length
  grp : ∀ (i : Nat) (a : Addr) (g : List Nk), as[i]? = some a → S.gs[i]? = some g → (∀ k ∈ g, Gk k) ∧ ∃ xs, H a = some (.lst xs) ∧ DpAll K (cut H0 G0) xs (grpD g)
section
variable {K : Frag} {G0 : Addr → Prop} {H0 H : Hp} {pd ps : Addr} {as st : List Addr} {S : LS}
theorem LK.same (L : LK K G0 H0 pd ps as st H S) : Same (cut H0 G0) H := fun a o h => L.keep a o (cut_mp h).2 (cut_nt h)
theorem keep_upd {H' : Hp} {p : Addr} {o : HO} (k : ∀ a o, H0 a = some o → isT o = false → H a = some o) (hp : H0 p = none) : ∀ a u, H0 a = some u → isT u = false → upd H p o a = some u := fun a u h nt => by
  rw [upd_ne (fun z => by rw [z, hp] at h; cases h)]
  exact k a u h nt
theorem there_upd {p : Addr} {o : HO} (k : ∀ a, H a = none → H0 a = none) : ∀ a, upd H p o a = none → H0 a = none := fun a h => by
  by_cases e : a = p
  · rw [e, upd_same] at h; cases h
  · rw [upd_ne e] at h
    exact k a h
theorem LK.mem {i : Nat} {a : Addr} (h : as[i]? = some a) : a ∈ as := List.mem_of_getElem? h
theorem LK.grpAt (L : LK K G0 H0 pd ps as st H S) {i : Nat} {a : Addr} (h : as[i]? = some a) : ∃ g xs, S.gs[i]? = some g ∧ (∀ k ∈ g, Gk k) ∧ H a = some (.lst xs) ∧ DpAll K (cut H0 G0) xs (grpD g) := by
  have hi := (List.getElem?_eq_some_iff.mp h).1
  rw [L.len] at hi
  obtain ⟨h1, xs, h2, h3⟩ := L.grp i a _ h (List.getElem?_eq_getElem hi)
  exact ⟨_, xs, List.getElem?_eq_getElem hi, h1, h2, h3⟩
theorem LK.ned (L : LK K G0 H0 pd ps as st H S) {i : Nat} {a : Addr} (h : as[i]? = some a) : a ≠ pd := fun z => by
  subst z
  exact L.n2 (LK.mem h)
theorem LK.nes (L : LK K G0 H0 pd ps as st H S) {i : Nat} {a : Addr} (h : as[i]? = some a) : a ≠ ps := fun z => by
  subst z
  exact L.n3 (LK.mem h)
/-- group_of[k] = the list at a -/
theorem LK.put (L : LK K G0 H0 pd ps as st H S) {kvs : List (Nk × Addr × V)} {k : Nk} {b a : Addr} {i : Nat} (hd : H pd = some (DnO K pd kvs)) (hm : MK K (cut H0 G0) as kvs S.m) (hk : KyH K (cut H0 G0) k b) (hi : as[i]? = some a) :
    LK K G0 H0 pd ps as st (upd H pd (DnO K pd (nPut kvs k b (.ref a)))) ⟨S.gs, mPut S.m k i⟩ where
  keep := keep_upd (H' := H) L.keep L.f1
  there := there_upd L.there
  tab := tabs_ext L.tab hd rfl fun _ => dn_ne_code
  f1 := L.f1
  f2 := L.f2
  f3 := L.f3
  n1 := L.n1
  n2 := L.n2
  n3 := L.n3
  n4 := L.n4
  dct := ⟨_, upd_same, hm.put hk hi⟩
  lst := by rw [upd_ne (Ne.symm L.n1)]; exact L.lst
  len := L.len
  grp := fun j c g h1 h2 => by
    obtain ⟨q1, xs, q2, q3⟩ := L.grp j c g h1 h2
    exact ⟨q1, xs, by rw [upd_ne (L.ned h1)]; exact q2, q3⟩
/-- a group changes -/
theorem LK.change (L : LK K G0 H0 pd ps as st H S) {i : Nat} {a : Addr} {g : List Nk} {ys : List V} (hi : as[i]? = some a) (hg : ∀ k ∈ g, Gk k) (hy : DpAll K (cut H0 G0) ys (grpD g)) :
    LK K G0 H0 pd ps as st (upd H a (.lst ys)) ⟨S.gs.set i g, S.m⟩ where
  keep := keep_upd (H' := H) L.keep (L.f3 a (LK.mem hi))
  there := there_upd L.there
  tab := by
    obtain ⟨_, xs, _, _, h, _⟩ := L.grpAt hi
    exact tabs_lst L.tab h
  f1 := L.f1
  f2 := L.f2
  f3 := L.f3
  n1 := L.n1
  n2 := L.n2
  n3 := L.n3
  n4 := L.n4
  dct := by
    obtain ⟨kvs, h1, h2⟩ := L.dct
    exact ⟨kvs, by rw [upd_ne (Ne.symm (L.ned hi))]; exact h1, h2⟩
  lst := by rw [upd_ne (Ne.symm (L.nes hi))]; exact L.lst
  len := by rw [List.length_set]; exact L.len
  grp := fun j c g' h1 h2 => by
    have h2' : (S.gs.set i g)[j]? = some g' := h2
    by_cases e : i = j
    · subst e
      rw [hi] at h1
      cases h1
      rw [List.getElem?_set_self (by rw [← L.len]; exact (List.getElem?_eq_some_iff.mp hi).1)] at h2'
      cases h2'
      exact ⟨hg, ys, upd_same, hy⟩
    · rw [List.getElem?_set_ne e] at h2'
      obtain ⟨q1, xs, q2, q3⟩ := L.grp j c g' h1 h2'
      have hne : c ≠ a := fun z => by
        subst z
        obtain ⟨li, ei⟩ := List.getElem?_eq_some_iff.mp hi
        obtain ⟨lj, ej⟩ := List.getElem?_eq_some_iff.mp h1
        exact e ((List.getElem_inj L.n4).mp (ei.trans ej.symm))
      exact ⟨q1, xs, by rw [upd_ne hne]; exact q2, q3⟩
/-- a new group -/
theorem LK.fresh (L : LK K G0 H0 pd ps as st H S) {p : Addr} {k : Nk} {v : V} (hp : H p = none) (hg : Gk k) (hv : Dp K (cut H0 G0) v k.data) : LK K G0 H0 pd ps (as ++ [p]) st (upd H p (.lst [v])) ⟨S.gs ++ [[k]], S.m⟩ where
  keep := keep_upd (H' := H) L.keep (L.there p hp)
  there := there_upd L.there
  tab := L.tab.ext (same_new hp)
  f1 := L.f1
  f2 := L.f2
  f3 := fun a ha => by
    rcases List.mem_append.mp ha with q | q
    · exact L.f3 a q
    · rw [List.mem_singleton.mp q]; exact L.there p hp
  n1 := L.n1
  n2 := fun w => by
    rcases List.mem_append.mp w with q | q
    · exact L.n2 q
    · obtain ⟨kvs, h1, _⟩ := L.dct
      rw [List.mem_singleton.mp q, hp] at h1
      cases h1
  n3 := fun w => by
    rcases List.mem_append.mp w with q | q
    · exact L.n3 q
    · have h1 := L.lst
      rw [List.mem_singleton.mp q, hp] at h1
      cases h1
  n4 := by
    rw [List.nodup_append]
    refine ⟨L.n4, by simp, fun a ha b hb => ?_⟩
    rw [List.mem_singleton.mp hb]
    intro z
    obtain ⟨i, hi⟩ := List.mem_iff_getElem?.mp ha
    obtain ⟨_, xs, _, _, h, _⟩ := L.grpAt hi
    rw [z, hp] at h
    cases h
  dct := by
    obtain ⟨kvs, h1, h2⟩ := L.dct
    exact ⟨kvs, by rw [upd_ne (ne_of_none h1 hp)]; exact h1, h2.more⟩
  lst := by rw [upd_ne (ne_of_none L.lst hp)]; exact L.lst
  len := by simp [L.len]
  grp := fun j c g h1 h2 => by
    have h2' : (S.gs ++ [[k]])[j]? = some g := h2
    by_cases hj : j < as.length
    · rw [List.getElem?_append_left hj] at h1
      rw [List.getElem?_append_left (by rw [← L.len]; exact hj)] at h2'
      obtain ⟨q1, xs, q2, q3⟩ := L.grp j c g h1 h2'
      exact ⟨q1, xs, by rw [upd_ne (ne_of_none q2 hp)]; exact q2, q3⟩
    · have e : j = as.length := by
        have := (List.getElem?_eq_some_iff.mp h1).1
        rw [List.length_append, List.length_singleton] at this
        omega
      subst e
      rw [List.getElem?_append_right (Nat.le_refl _), Nat.sub_self] at h1
      rw [L.len, List.getElem?_append_right (Nat.le_refl _), Nat.sub_self] at h2'
      cases h1
      cases h2'
      refine ⟨fun x hx => ?_, [v], upd_same, .cons hv .nil⟩
      rw [List.mem_singleton.mp hx]
      exact hg
/-- started.append(..) -/
theorem LK.tell (L : LK K G0 H0 pd ps as st H S) {a : Addr} : LK K G0 H0 pd ps as (st ++ [a]) (upd H ps (.lst (st.map V.ref ++ [.ref a]))) S where
  keep := keep_upd (H' := H) L.keep L.f2
  there := there_upd L.there
  tab := tabs_lst L.tab L.lst
  f1 := L.f1
  f2 := L.f2
  f3 := L.f3
  n1 := L.n1
  n2 := L.n2
  n3 := L.n3
  n4 := L.n4
  dct := by
    obtain ⟨kvs, h1, h2⟩ := L.dct
    exact ⟨kvs, by rw [upd_ne L.n1]; exact h1, h2⟩
  lst := by rw [upd_same, List.map_append]; rfl
  len := L.len
  grp := fun j c g h1 h2 => by
    obtain ⟨q1, xs, q2, q3⟩ := L.grp j c g h1 h2
    exact ⟨q1, xs, by rw [upd_ne (L.nes h1)]; exact q2, q3⟩
end
end PB

set_option maxHeartbeats 4000000
/-! Own layer, further: the def linked, by hand: what its loop does. -/
namespace PB
open PySem PySem.Spec PyProof.Rows L2
/-! ### the text's parts, by slots: pairs 0, group_of 1, started 2, one 3, other 4, here 5, there 6, member 7 (group 8) -/
def lkS1 (K : Frag) : TS := tIfS (tTest (tOp (rInV K false) (tVar 3) (tVar 1))) (tAsg (tOp (rGetV K) (tVar 1) (tVar 3)) (gName 5))
  (tSeq (tAsg2 (tLst (tCons (tVar 3) tNil)) (gName 5) (gSub (tVar 1) (tVar 3) (rSetN K))) (tDrop (tBM K.K "list" rAppend (tVar 2) (tCons (tVar 5) tNil))))
def lkLoop (K : Frag) : TS := tFor (iAny K.K (tVar 6)) (gName 7) (tAsg (tVar 5) (gSub (tVar 1) (tVar 7) (rSetN K)))
def lkS3 (K : Frag) : TS := tSeq (tAsg (tOp (rGetV K) (tVar 1) (tVar 4)) (gName 6)) (tSeq (tDrop (tBM K.K "list" rExtend (tVar 5) (tCons (tVar 6) tNil))) (tSeq (lkLoop K) (tDrop (tBM0 K.K "list" rClear (tVar 6)))))
def lkS2 (K : Frag) : TS := tIfS (tTest (tOp (rInV K true) (tVar 4) (tVar 1)))
  (tSeq (tDrop (tBM K.K "list" rAppend (tVar 5) (tCons (tVar 4) tNil))) (tAsg (tVar 5) (gSub (tVar 1) (tVar 4) (rSetN K)))) (tIfS (tTest (tOp (rInA K true) (tVar 4) (tVar 5))) (lkS3 K) tNext)
def lkFor (K : Frag) : TS := tFor (iAny K.K (tVar 0)) (gTup K.K 2 (gCons (gName 3) (gCons (gName 4) gNil))) (tSeq (lkS1 K) (lkS2 K))
abbrev sl9 (x0 : Option V) (pd ps : Addr) (x3 x4 x5 x6 x7 x8 : Option V) : SS := [x0, some (.ref pd), some (.ref ps), x3, x4, x5, x6, x7, x8]
section
variable {K : Frag} {G0 : Addr → Prop} {H0 H : Hp} {pd ps : Addr} {as st : List Addr} {S S' : LS} {x0 x5 x6 x7 x8 : Option V} {k1 k2 : Nk} {b1 b2 : Addr} {i : Nat} {D : Ends}
theorem LK.isL (L : LK K G0 H0 pd ps as st H S) {a : Addr} (h : as[i]? = some a) : tyV K.K "list" (.ref a) H := by
  obtain ⟨_, xs, _, _, hx, _⟩ := L.grpAt h
  exact .inl ⟨rfl, xs, .of hx⟩
theorem here_ok (L : LK K G0 H0 pd ps as as H S) (h1 : KyH K (cut H0 G0) k1 b1) (g1 : Gk k1) (hs : lkHere S k1 = some (i, S'))
    (nx : ∀ as' H' a, LK K G0 H0 pd ps as' as' H' S' → as'[i]? = some a → D.nx (sl9 x0 pd ps (some (.ref b1)) (some (.ref b2)) (some (.ref a)) x6 x7 x8) H') :
    lkS1 K D (sl9 x0 pd ps (some (.ref b1)) (some (.ref b2)) x5 x6 x7 x8) H := by
  obtain ⟨kvs, hd, hm⟩ := L.dct
  have al := hm.keys.mono L.same
  refine ⟨.ref b1, rfl, .ref pd, rfl, pd, b1, kvs, k1, rfl, rfl, h1.mono L.same, .inl hd, al, _, rfl, ?_⟩
  unfold lkHere at hs
  rcases hm.at k1 with ⟨e1, e2⟩ | ⟨j, a, e1, e2, e3⟩
  · rw [e2] at hs
    simp only at hs
    split at hs
    case isFalse => cases hs
    rename_i hz
    cases hs
    rw [e1]
    refine iteF ?_
    refine ⟨.ref b1, rfl, by show 1 ≤ sizeLine; decide, fun p hp => ?_⟩
    have L1 := L.fresh hp g1 h1.1
    obtain ⟨kvs1, hd1, hm1⟩ := L1.dct
    have hpi : (as ++ [p])[S.gs.length]? = some p := by
      rw [← L.len, List.getElem?_append_right (Nat.le_refl _), Nat.sub_self]
      rfl
    have L2 := L1.put hd1 hm1 h1 hpi
    have L3 := L2.tell (a := p)
    refine ⟨.ref pd, rfl, .ref b1, rfl, pd, b1, kvs1, k1, rfl, rfl, h1.mono L1.same, hd1, hm1.keys.mono L1.same, ?_, ?_⟩
    · rw [hm1.len]
      exact szOk_lt hz.1
    · refine ⟨.ref ps, rfl, .inl ⟨rfl, _, .of L2.lst⟩, .ref p, rfl, ps, _, .ref p, rfl, rfl, L2.lst, ?_, nx _ _ p L3 hpi⟩
      rw [List.length_map, L.len]
      exact szOk_lt hz.2
  · rw [e2] at hs
    cases hs
    rw [e1]
    refine iteT ⟨.ref pd, rfl, .ref b1, rfl, pd, b1, kvs, k1, .ref a, rfl, rfl, h1.mono L.same, .inl hd, al, e1, nx as H a L e3⟩
theorem fold_len (i : Nat) : ∀ (g : List Nk) (m : List (Nk × Nat)), (g.foldl (fun m k => mPut m k i) m).length ≤ m.length + g.length
  | [], m => Nat.le_refl _
  | k :: g, m => by
    have h1 := fold_len i g (mPut m k i)
    have h2 := mPut_len m k i
    rw [List.foldl_cons, List.length_cons]
    omega
theorem loop_ok {j : Nat} {gj : List Nk} {aj ai : Addr} {zs : List V} (L : LK K G0 H0 pd ps as as H S) (hj : as[j]? = some aj) (hi : as[i]? = some ai) (hg : ∀ k ∈ gj, Gk k) (hz : H aj = some (.lst zs)) (dz : DpAll K (cut H0 G0) zs (grpD gj)) (hl : szOk (S.m.length + gj.length) = true)
    {x3 x4 : Option V} (nx : ∀ H' x7', LK K G0 H0 pd ps as as H' ⟨S.gs, gj.foldl (fun m k => mPut m k i) S.m⟩ → H' aj = some (.lst zs) → D.nx (sl9 x0 pd ps x3 x4 (some (.ref ai)) (some (.ref aj)) x7' x8) H') :
    lkLoop K D (sl9 x0 pd ps x3 x4 (some (.ref ai)) (some (.ref aj)) x7 x8) H := by
  have hlen := dpa_len dz
  rw [grpD, List.length_map] at hlen
  have hz' : S.m.length + gj.length ≤ 100000 := of_decide_eq_true hl
  refine ⟨.ref aj, rfl, .inl ⟨aj, rfl, ⟨zs, .of hz⟩, ?_⟩⟩
  refine ⟨fun n r σ' H' => r = zs.length - n ∧ n ≤ zs.length ∧ ∃ x7', σ' = sl9 x0 pd ps x3 x4 (some (.ref ai)) (some (.ref aj)) x7' x8 ∧ LK K G0 H0 pd ps as as H' ⟨S.gs, (gj.take n).foldl (fun m k => mPut m k i) S.m⟩ ∧ H' aj = some (.lst zs),
    ⟨zs.length, by simp, Nat.zero_le _, x7, rfl, L, hz⟩, ?_⟩
  rintro n r σ' H' ⟨rfl, hn, x7', rfl, L', hz2⟩
  by_cases hlt : n < zs.length
  · refine .inr ⟨⟨zs, zs[n], .of hz2, List.getElem?_eq_getElem hlt⟩, fun σ2 H2 => ∃ m', m' < zs.length - n ∧ (m' = zs.length - (n + 1) ∧ n + 1 ≤ zs.length ∧ ∃ x7', σ2 = sl9 x0 pd ps x3 x4 (some (.ref ai)) (some (.ref aj)) x7' x8 ∧ LK K G0 H0 pd ps as as H2 ⟨S.gs, (gj.take (n + 1)).foldl (fun m k => mPut m k i) S.m⟩ ∧ H2 aj = some (.lst zs)), fun _ _ h => h, ?_⟩
    rintro x H3 ⟨rfl, hy⟩
    have ex := hy zs (.of hz2)
    have hn2 : n < gj.length := by omega
    obtain ⟨u, eu, du⟩ := dpa_get' dz ex
    rw [grpD, List.getElem?_map, List.getElem?_eq_getElem hn2] at eu
    cases eu
    obtain ⟨b, rfl, ky⟩ := ky_of du (hg _ (List.getElem_mem hn2))
    obtain ⟨kvs, hd, hm⟩ := L'.dct
    have L2 := L'.put hd hm ky hi
    refine ⟨.ref ai, rfl, .ref pd, rfl, .ref b, rfl, pd, b, kvs, _, rfl, rfl, ky.mono L'.same, hd, hm.keys.mono L'.same, ?_, zs.length - (n + 1), by omega, rfl, by omega, some (.ref b), rfl, ?_, ?_⟩
    · have e := hm.len
      have f := fold_len i (gj.take n) S.m
      rw [List.length_take] at f
      rw [sizeLine_eq, e]
      show ((gj.take n).foldl (fun m k => mPut m k i) S.m).length < _
      omega
    · have et : gj.take (n + 1) = gj.take n ++ [gj[n]] := by rw [List.take_succ, List.getElem?_eq_getElem hn2]; rfl
      rw [et, List.foldl_append]
      exact L2
    · rw [upd_ne (L'.ned hj)]
      exact hz2
  · have e : n = zs.length := by omega
    subst e
    refine .inl ⟨⟨zs, .of hz2, Nat.le_refl _⟩, nx H' x7' ?_ hz2⟩
    rw [hlen, List.take_length] at L'
    exact L'
theorem there_ok {ai : Addr} (L : LK K G0 H0 pd ps as as H S) (hi : as[i]? = some ai) (h2 : KyH K (cut H0 G0) k2 b2) (g2 : Gk k2) (hs : lkThere S i k2 = some S')
    (nx : ∀ H' x6' x7', LK K G0 H0 pd ps as as H' S' → D.nx (sl9 x0 pd ps (some (.ref b1)) (some (.ref b2)) (some (.ref ai)) x6' x7' x8) H') :
    lkS2 K D (sl9 x0 pd ps (some (.ref b1)) (some (.ref b2)) (some (.ref ai)) x6 x7 x8) H := by
  obtain ⟨kvs, hd, hm⟩ := L.dct
  have al := hm.keys.mono L.same
  obtain ⟨gi, xs, eg, gg, hx, dx⟩ := L.grpAt hi
  have hlx := dpa_len dx
  rw [grpD, List.length_map] at hlx
  refine ⟨.ref b2, rfl, .ref pd, rfl, pd, b2, kvs, k2, rfl, rfl, h2.mono L.same, .inl hd, al, _, rfl, ?_⟩
  unfold lkThere at hs
  rw [eg, Option.bind_some] at hs
  rcases hm.at k2 with ⟨e1, e2⟩ | ⟨j, aj, e1, e2, e3⟩
  · rw [e2] at hs
    simp only at hs
    split at hs
    case isFalse => cases hs
    rename_i hz
    cases hs
    rw [e1]
    refine iteT ?_
    have L1 := L.change (g := gi ++ [k2]) (ys := xs ++ [.ref b2]) hi (fun k hk => by
      rcases List.mem_append.mp hk with q | q
      · exact gg k q
      · rw [List.mem_singleton.mp q]; exact g2) (by
      rw [grpD, List.map_append]
      exact dpa_app dx (.cons h2.1 .nil))
    obtain ⟨kvs1, hd1, hm1⟩ := L1.dct
    have L2 := L1.put hd1 hm1 h2 hi
    refine ⟨.ref ai, rfl, L.isL hi, .ref b2, rfl, ai, xs, .ref b2, rfl, rfl, hx, by rw [hlx]; exact szOk_lt hz.2, ?_⟩
    refine ⟨.ref ai, rfl, .ref pd, rfl, .ref b2, rfl, pd, b2, kvs1, k2, rfl, rfl, h2.mono L1.same, hd1, hm1.keys.mono L1.same, by rw [hm1.len]; exact szOk_lt hz.1, nx _ x6 x7 L2⟩
  · rw [e2] at hs
    simp only at hs
    split at hs
    case isFalse => cases hs
    rename_i hsh
    rw [Bool.and_eq_true] at hsh
    rw [e1]
    refine iteF ?_
    have dl : Dp K H (.ref ai) (.list (grpD gi)) := .lst (.of hx) (dpa_mono L.same dx)
    refine ⟨.ref b2, rfl, .ref ai, rfl, k2.data, .list (grpD gi), grpD gi, dp_mono L.same h2.1, dl, rfl, hsh.1, hsh.2, _, rfl, ?_⟩
    split at hs
    · rename_i hin
      cases hs
      rw [hin]
      exact iteF (nx H x6 x7 L)
    · rename_i hin
      obtain ⟨gj, egj, hs⟩ := Option.bind_eq_some_iff.mp hs
      have hin' : isIn k2.data (grpD gi) = false := by simpa using hin
      rw [hin']
      refine iteT ?_
      unfold lkJoin at hs
      split at hs
      case isFalse => cases hs
      rename_i hz
      cases hs
      obtain ⟨hij, hz1, hz2⟩ := hz
      obtain ⟨gj', zs, eg2, ggj, hzj, dzj⟩ := L.grpAt e3
      rw [egj] at eg2
      cases eg2
      have hlz := dpa_len dzj
      rw [grpD, List.length_map] at hlz
      have nij : ai ≠ aj := fun z => by
        subst z
        obtain ⟨li, ei⟩ := List.getElem?_eq_some_iff.mp hi
        obtain ⟨lj, ej⟩ := List.getElem?_eq_some_iff.mp e3
        exact hij ((List.getElem_inj L.n4).mp (ei.trans ej.symm))
      refine ⟨.ref pd, rfl, .ref b2, rfl, pd, b2, kvs, k2, .ref aj, rfl, rfl, h2.mono L.same, .inl hd, al, e1, ?_⟩
      have L1 := L.change (g := gi ++ gj) (ys := xs ++ zs) hi (fun k hk => by
        rcases List.mem_append.mp hk with q | q
        · exact gg k q
        · exact ggj k q) (by
        rw [grpD, List.map_append]
        exact dpa_app dx dzj)
      refine ⟨.ref ai, rfl, L.isL hi, .ref aj, rfl, ai, aj, xs, zs, rfl, rfl, hx, hzj, by rw [hlx, hlz]; exact szOk_le hz1, ?_⟩
      refine loop_ok (gj := gj) (zs := zs) L1 e3 hi ggj (by rw [upd_ne (Ne.symm nij)]; exact hzj) dzj hz2 fun H' x7' L2 hz' => ?_
      have L3 := L2.change (g := []) (ys := []) e3 (fun k hk => by cases hk) .nil
      exact ⟨.ref aj, rfl, .inl ⟨rfl, zs, .of hz'⟩, aj, zs, rfl, rfl, hz', nx _ (some (.ref aj)) x7' L3⟩
theorem pair_ok (L : LK K G0 H0 pd ps as as H S) (h1 : KyH K (cut H0 G0) k1 b1) (g1 : Gk k1) (h2 : KyH K (cut H0 G0) k2 b2) (g2 : Gk k2) (hs : lkStep S k1 k2 = some S')
    (nx : ∀ as' H' x5' x6' x7', LK K G0 H0 pd ps as' as' H' S' → D.nx (sl9 x0 pd ps (some (.ref b1)) (some (.ref b2)) x5' x6' x7' x8) H') :
    tSeq (lkS1 K) (lkS2 K) D (sl9 x0 pd ps (some (.ref b1)) (some (.ref b2)) x5 x6 x7 x8) H := by
  unfold lkStep at hs
  obtain ⟨⟨i, S1⟩, e1, e2⟩ := Option.bind_eq_some_iff.mp hs
  refine here_ok L h1 g1 e1 fun as' H' a L' ha => ?_
  exact there_ok L' ha h2 g2 e2 fun H2 x6' x7' L2 => nx as' H2 _ x6' x7' L2
end
end PB

set_option maxHeartbeats 4000000
/-! Own layer, further: the def linked, by hand: the whole. -/
namespace PB
open PySem PySem.Spec PyProof.Rows L2
def pairKK : D → Option (Nk × Nk)
  | .tuple [a, b] => (tkOf a).bind fun x => (tkOf b).map fun y => (x, y)
  | _ => none
def pairsKK : List D → Option (List (Nk × Nk))
  | [] => some []
  | d :: r => (pairKK d).bind fun p => (pairsKK r).map (p :: ·)
theorem pairKK_some {d : D} {p : Nk × Nk} (h : pairKK d = some p) : ∃ a b, d = .tuple [a, b] ∧ tkOf a = some p.1 ∧ tkOf b = some p.2 := by
  unfold pairKK at h
  split at h
  · obtain ⟨x, e1, h⟩ := Option.bind_eq_some_iff.mp h
    obtain ⟨y, e2, rfl⟩ := Option.map_eq_some_iff.mp h
    exact ⟨_, _, rfl, e1, e2⟩
  · cases h
theorem pairsKK_get : ∀ {ds : List D} {ps : List (Nk × Nk)} {i : Nat} (hi : i < ds.length), pairsKK ds = some ps → ∃ p, ps[i]? = some p ∧ pairKK ds[i] = some p
  | d :: ds, ps, i, hi, h => by
    have h' : ((pairKK d).bind fun p => (pairsKK ds).map (p :: ·)) = some ps := h
    obtain ⟨p, e1, h'⟩ := Option.bind_eq_some_iff.mp h'
    obtain ⟨r, e2, rfl⟩ := Option.map_eq_some_iff.mp h'
    cases i with
    | zero => exact ⟨p, rfl, e1⟩
    | succ i => exact pairsKK_get (ds := ds) (Nat.lt_of_succ_lt_succ hi) e2
theorem pairsKK_len : ∀ {ds : List D} {ps : List (Nk × Nk)}, pairsKK ds = some ps → ps.length = ds.length
  | [], ps, h => by cases h; rfl
  | d :: ds, ps, h => by
    have h' : ((pairKK d).bind fun p => (pairsKK ds).map (p :: ·)) = some ps := h
    obtain ⟨p, e1, h'⟩ := Option.bind_eq_some_iff.mp h'
    obtain ⟨r, e2, rfl⟩ := Option.map_eq_some_iff.mp h'
    rw [List.length_cons, List.length_cons, pairsKK_len e2]
def outG (gs : List (List Nk)) : D := .list (gs.map fun g => .list (grpD g))
def sLink : MS := fun e => match e with
  | [some (.val d), none, none, none, none, none, none, none, none] => (seqOf d).bind fun ds => (pairsKK ds).bind fun pr => (lkAll pr ⟨[], []⟩).map fun S => (.next, [some (.val d), none, some (.val (outG S.gs)), none, none, none, none, none, none])
  | _ => none
/-- what is walked while all that was seen ahead stays -/
structure WU (K : Frag) (V0 : Hp) (J : It) (ds : List D) : Prop where
  go : ∀ i H, Same V0 H → i < ds.length → J.go i H
  stop : ∀ i H, Same V0 H → ds.length ≤ i → J.stop i H
  yld : ∀ (i : Nat) (H : Hp) (x : V) (H' : Hp) (hi : i < ds.length), Same V0 H → J.yld i H x H' → H' = H ∧ Dp K V0 x ds[i]
section
variable {K : Frag} {G0 : Addr → Prop} {H0 H : Hp} {pd ps : Addr} {as st : List Addr} {S S' : LS} {x0 x3 x4 x5 x6 x7 x8 : Option V} {De : Ends}
theorem wu_of {V0 : Hp} {v : V} {d : D} {ds : List D} {σ : SS} {R : It → Hp → Prop} (h : Dp K V0 v d) (hs : seqOf d = some ds) (sm : Same V0 H) (hσ : σ[0]? = some (some v)) (hR : ∀ J, WU K V0 J ds → R J H) : iAny K.K (tVar 0) σ H R := by
  refine ⟨v, hσ, ?_⟩
  unfold seqOf at hs
  split at hs
  · cases hs
    obtain ⟨l, xs, rfl, q1, t1⟩ := dp_list h
    refine .inl ⟨l, rfl, ⟨xs, sm.seq q1⟩, hR _ ⟨fun i H s hi => ?_, fun i H s hi => ⟨xs, s.seq q1, by rw [dpa_len t1]; exact hi⟩, fun i H x H' hi s y => ?_⟩⟩
    · rw [← dpa_len t1] at hi
      exact ⟨xs, xs[i], s.seq q1, List.getElem?_eq_getElem hi⟩
    · obtain ⟨rfl, y⟩ := y
      obtain ⟨u, h1, h2⟩ := dpa_get t1 (List.getElem?_eq_getElem hi)
      have e := y xs (s.seq q1)
      rw [h1] at e
      cases e
      exact ⟨rfl, h2⟩
  · cases hs
    obtain ⟨l, xs, rfl, q1, t1⟩ := dp_tup h
    refine .inr (.inl ⟨l, rfl, ⟨xs, same_tup sm q1⟩, hR _ ⟨fun i H s hi => ?_, fun i H s hi => ⟨xs, same_tup s q1, by rw [dpa_len t1]; exact hi⟩, fun i H x H' hi s y => ?_⟩⟩)
    · rw [← dpa_len t1] at hi
      exact ⟨xs, xs[i], same_tup s q1, List.getElem?_eq_getElem hi⟩
    · obtain ⟨rfl, y⟩ := y
      obtain ⟨u, h1, h2⟩ := dpa_get t1 (List.getElem?_eq_getElem hi)
      have e := y xs (same_tup s q1)
      rw [h1] at e
      cases e
      exact ⟨rfl, h2⟩
  · cases hs
theorem for_ok {v : V} {d : D} {ds : List D} {pr : List (Nk × Nk)} (L : LK K G0 H0 pd ps as as H S) (hP : Dp K (cut H0 G0) v d) (hs : seqOf d = some ds) (hp : pairsKK ds = some pr) (hl : lkAll pr S = some S')
    (nx : ∀ as' H' y3 y4 y5 y6 y7, LK K G0 H0 pd ps as' as' H' S' → De.nx (sl9 (some v) pd ps y3 y4 y5 y6 y7 x8) H') :
    lkFor K De (sl9 (some v) pd ps x3 x4 x5 x6 x7 x8) H := by
  unfold lkFor tFor
  refine wu_of (σ := sl9 (some v) pd ps x3 x4 x5 x6 x7 x8) hP hs L.same rfl fun J wu => ?_
  have hlen := pairsKK_len hp
  refine ⟨fun n r σ' H' => r = ds.length - n ∧ n ≤ ds.length ∧ ∃ as' S1 y3 y4 y5 y6 y7, σ' = sl9 (some v) pd ps y3 y4 y5 y6 y7 x8 ∧ LK K G0 H0 pd ps as' as' H' S1 ∧ lkAll (pr.drop n) S1 = some S',
    ⟨ds.length, by simp, Nat.zero_le _, as, S, x3, x4, x5, x6, x7, rfl, L, hl⟩, ?_⟩
  rintro n r σ' H' ⟨rfl, hn, as', S1, y3, y4, y5, y6, y7, rfl, L', hl'⟩
  by_cases hlt : n < ds.length
  · refine .inr ⟨wu.go n H' L'.same hlt, fun σ2 H2 => ∃ m', m' < ds.length - n ∧ (m' = ds.length - (n + 1) ∧ n + 1 ≤ ds.length ∧ ∃ as' S1 y3 y4 y5 y6 y7, σ2 = sl9 (some v) pd ps y3 y4 y5 y6 y7 x8 ∧ LK K G0 H0 pd ps as' as' H2 S1 ∧ lkAll (pr.drop (n + 1)) S1 = some S'), fun _ _ h => h, fun x H3 hy => ?_⟩
    obtain ⟨rfl, dx⟩ := wu.yld n H' x H3 hlt L'.same hy
    obtain ⟨p, e1, e2⟩ := pairsKK_get hlt hp
    obtain ⟨a, b, e3, t1, t2⟩ := pairKK_some e2
    rw [e3] at dx
    obtain ⟨l, xs, rfl, q1, q2⟩ := dp_tup dx
    cases q2 with
    | cons d1 q2 =>
      cases q2 with
      | cons d2 q2 =>
        cases q2
        obtain ⟨b1, rfl, ky1⟩ := ky_of d1 t1
        obtain ⟨b2, rfl, ky2⟩ := ky_of d2 t2
        have hn2 : n < pr.length := by omega
        rw [List.drop_eq_getElem_cons hn2] at hl'
        have ep : pr[n] = p := by
          rw [List.getElem?_eq_getElem hn2] at e1
          exact Option.some.inj e1
        rw [ep] at hl'
        obtain ⟨S2, e5, e6⟩ := Option.bind_eq_some_iff.mp hl'
        have g1 : Gk p.1 := by
          unfold Gk
          rw [← (tkOf_some t1).1]
          exact t1
        have g2 : Gk p.2 := by
          unfold Gk
          rw [← (tkOf_some t2).1]
          exact t2
        refine ⟨l, _, rfl, same_tup L'.same q1, rfl, _, _, rfl, _, _, rfl, rfl, ?_⟩
        exact pair_ok L' ky1 g1 ky2 g2 e5 fun as2 H2 z5 z6 z7 L2 => ⟨ds.length - (n + 1), by omega, rfl, by omega, as2, S2, _, _, z5, z6, z7, rfl, L2, e6⟩
  · have e : n = ds.length := by omega
    subst e
    refine .inl ⟨wu.stop _ H' L'.same (Nat.le_refl _), ?_⟩
    rw [← hlen, List.drop_length] at hl'
    cases hl'
    exact nx as' H' y3 y4 y5 y6 y7 L'
theorem dpa_by {Hv : Hp} : ∀ {vs : List V} {ds : List D}, vs.length = ds.length → (∀ (i : Nat) v d, vs[i]? = some v → ds[i]? = some d → Dp K Hv v d) → DpAll K Hv vs ds
  | [], [], _, _ => .nil
  | v :: vs, d :: ds, hl, h => .cons (h 0 v d rfl rfl) (dpa_by (by simpa using hl) fun i x y h1 h2 => h (i + 1) x y h1 h2)
  | [], _ :: _, hl, _ => by simp at hl
  | _ :: _, [], hl, _ => by simp at hl
theorem link_of {mR : MS} : ∀ D σ H, tSOf K (sSeq sLink mR) D σ H → tSeq (tAsg (tDNewN K) (gName 1)) (tSeq (tAsg (tLst tNil) (gName 2)) (tSeq (lkFor K) (tSOf K mR))) D σ H := by
  rintro D σ H ⟨G, e, o, e', rel, hm, k⟩
  obtain ⟨⟨o1, e1⟩, h1, hm⟩ := Option.bind_eq_some_iff.mp hm
  have h1' := h1
  unfold sLink at h1
  split at h1
  case h_2 => cases h1
  rename_i d
  obtain ⟨ds, hs, h1⟩ := Option.bind_eq_some_iff.mp h1
  obtain ⟨pr, hp, h1⟩ := Option.bind_eq_some_iff.mp h1
  obtain ⟨S, hl, h1⟩ := Option.map_eq_some_iff.mp h1
  cases h1
  have hlen := rel.len
  match σ, hlen with
  | [y0, y1, y2, y3, y4, y5, y6, y7, y8], _ =>
    obtain ⟨v, ev, dv⟩ := rel.val 0 d rfl
    have ev' : y0 = some v := by simpa using ev
    subst ev'
    have noOwn0 : ∀ a, ¬ Own [some v, y1, y2, y3, y4, y5, y6, y7, y8] [some (.val d), none, none, none, none, none, none, none, none] a := by
      rintro a ⟨i, b, ds', q1, _⟩
      match i with
      | 0 => cases q1
      | 1 => cases q1
      | 2 => cases q1
      | 3 => cases q1
      | 4 => cases q1
      | 5 => cases q1
      | 6 => cases q1
      | 7 => cases q1
      | 8 => cases q1
      | i + 9 => cases q1
    intro pd hpd
    refine ⟨by show 0 ≤ sizeLine; decide, fun ps hps => ?_⟩
    have n1 : pd ≠ ps := fun z => by
      subst z
      rw [upd_same] at hps
      cases hps
    have hps0 : H ps = none := by rwa [upd_ne (Ne.symm n1)] at hps
    have L : LK K (fun a => G a ∨ Own [some v, y1, y2, y3, y4, y5, y6, y7, y8] [some (.val d), none, none, none, none, none, none, none, none] a) H pd ps [] [] (upd (upd H pd (DnO K pd [])) ps (.lst [])) ⟨[], []⟩ := by
      refine ⟨fun a o h nt => ?_, there_upd (there_upd fun a h => h), ((rel.tab.ext (same_new hpd)).ext (same_new hps)), hpd, hps0, (fun a ha => absurd ha List.not_mem_nil), n1, List.not_mem_nil, List.not_mem_nil, List.nodup_nil, ⟨[], by rw [upd_ne n1, upd_same], .nil⟩, upd_same, rfl, fun i a g h1 => by simp at h1⟩
      exact keep_upd (H' := H) (keep_upd (H' := H) (fun a o h _ => h) hpd) hps0 a o h nt
    refine for_ok (v := v) L dv hs hp hl fun as' H' z3 z4 z5 z6 z7 L' => ?_
    have noOwn1 : ∀ a, ¬ Own (sl9 (some v) pd ps z3 z4 z5 z6 z7 y8) [some (.val d), none, some (.val (outG S.gs)), none, none, none, none, none, none] a := by
      rintro a ⟨i, b, ds', q1, _⟩
      match i with
      | 0 => cases q1
      | 1 => cases q1
      | 2 => cases q1
      | 3 => cases q1
      | 4 => cases q1
      | 5 => cases q1
      | 6 => cases q1
      | 7 => cases q1
      | 8 => cases q1
      | i + 9 => cases q1
    have stp : Step [some v, y1, y2, y3, y4, y5, y6, y7, y8] [some (.val d), none, none, none, none, none, none, none, none] H (sl9 (some v) pd ps z3 z4 z5 z6 z7 y8) [some (.val d), none, some (.val (outG S.gs)), none, none, none, none, none, none] H' := by
      refine ⟨fun a o h _ nt => L'.keep a o h nt, fun a w => absurd w (noOwn1 a), L'.there, fun i ds' q1 => ?_⟩
      match i with
      | 0 => cases q1
      | 1 => cases q1
      | 2 => cases q1
      | 3 => cases q1
      | 4 => cases q1
      | 5 => cases q1
      | 6 => cases q1
      | 7 => cases q1
      | 8 => cases q1
      | i + 9 => cases q1
    have sm : Same (vis G [some v, y1, y2, y3, y4, y5, y6, y7, y8] [some (.val d), none, none, none, none, none, none, none, none] H) (vis G (sl9 (some v) pd ps z3 z4 z5 z6 z7 y8) [some (.val d), none, some (.val (outG S.gs)), none, none, none, none, none, none] H') := stp.vis
    have out : ∀ a, H a = none → ¬ (G a ∨ Own (sl9 (some v) pd ps z3 z4 z5 z6 z7 y8) [some (.val d), none, some (.val (outG S.gs)), none, none, none, none, none, none] a) := fun a h w => w.elim (fun g => rel.frn a g h) (noOwn1 a)
    have rel1 : Rel K G (sl9 (some v) pd ps z3 z4 z5 z6 z7 y8) H' [some (.val d), none, some (.val (outG S.gs)), none, none, none, none, none, none] := by
      refine ⟨rfl, fun i d' h => ?_, fun i b ds' h => ?_, fun i j b c d1 d2 p h => ?_, fun a h z => rel.frn a h (L'.there a z), L'.tab, fun i x h => ?_⟩
      · match i with
        | 0 =>
          cases h
          exact ⟨v, rfl, dp_mono sm dv⟩
        | 1 => cases h
        | 2 =>
          cases h
          refine ⟨.ref ps, rfl, .lst (.of (cut_of (out ps L'.f2) L'.lst)) (dpa_by (by rw [List.length_map, List.length_map, L'.len]) fun i u w e1 e2 => ?_)⟩
          rw [List.getElem?_map, Option.map_eq_some_iff] at e1 e2
          obtain ⟨a, e1, rfl⟩ := e1
          obtain ⟨g, e2, rfl⟩ := e2
          obtain ⟨_, xs, hx, dx⟩ := L'.grp i a g e1 e2
          exact .lst (.of (cut_of (out a (L'.f3 a (LK.mem e1))) hx)) (dpa_mono sm dx)
        | 3 => cases h
        | 4 => cases h
        | 5 => cases h
        | 6 => cases h
        | 7 => cases h
        | 8 => cases h
        | i + 9 => cases h
      · match i with
        | 0 => cases h
        | 1 => cases h
        | 2 => cases h
        | 3 => cases h
        | 4 => cases h
        | 5 => cases h
        | 6 => cases h
        | 7 => cases h
        | 8 => cases h
        | i + 9 => cases h
      · match i with
        | 0 => cases h
        | 1 => cases h
        | 2 => cases h
        | 3 => cases h
        | 4 => cases h
        | 5 => cases h
        | 6 => cases h
        | 7 => cases h
        | 8 => cases h
        | i + 9 => cases h
      · match i with
        | 0 => cases h
        | 1 => cases h
        | 2 => cases h
        | 3 => cases h
        | 4 => cases h
        | 5 => cases h
        | 6 => cases h
        | 7 => cases h
        | 8 => cases h
        | i + 9 => cases h
    exact ⟨G, _, o, e', rel1, hm, outs_back stp k⟩
end
end PB

set_option maxHeartbeats 4000000
/-! Own layer, further: a, b = two new lists; lists of one's own looked at and kept. -/
namespace PB
open PySem PySem.Spec PyProof.Rows L2
section
variable {K : Frag} {X : Cx} {G : Addr → Prop} {σ σ1 : SS} {H H1 : Hp} {e e1 : Sg}
theorem own_put {i : Nat} {ds : List D} {p : Addr} {xs : List V} (st : Step σ e H σ1 e1 H1) (r1 : Rel K (fun a => G a ∨ a = p) σ1 H1 e1) (hp : H p = none) (hG : ¬ G p) (hx : H1 p = some (.lst xs)) (dp : DpAll K (vis (fun a => G a ∨ a = p) σ1 e1 H1) xs ds) (hi : i < e1.length) (hq : isPar e1[i]? = false) :
    Step σ e H (σ1.set i (some (.ref p))) (e1.set i (some (.own false ds))) H1 ∧ Rel K G (σ1.set i (some (.ref p))) H1 (e1.set i (some (.own false ds))) := by
  obtain ⟨r2, own'⟩ := put_own r1 hi hG hx dp
  refine ⟨⟨st.keep, fun b w => ?_, st.there, fun j ds' hj => ?_⟩, r2⟩
  · rcases own' b w with q | q
    · exact st.new b q
    · rw [q]
      exact .inr hp
  · obtain ⟨q1, ds2, q2⟩ := st.par j ds' hj
    have hne : i ≠ j := fun q => by
      rw [q, q2] at hq
      cases hq
    rw [List.getElem?_set, List.getElem?_set, if_neg hne, if_neg hne]
    exact ⟨q1, ds2, q2⟩
def sParN (i j : Nat) (m1 m2 : ML) : MS := fun e => (m1 e).bind fun r => (m2 r.2).bind fun q => if (decide (j < q.2.length) && !isPar q.2[j]? && decide (i < q.2.length) && !isPar q.2[i]?) = true then some (.next, (q.2.set j (some (.own false q.1))).set i (some (.own false r.1))) else none
theorem js_parN {i j : Nat} {x y : Str} {a b : Expr} {m1 m2 : ML} {px py pt pos : Pos} {kt k2 pt2} (hc : X.calm = true) (hN : X.N.Nodup) (hi : X.N[i]? = some x) (hj : X.N[j]? = some y) (hij : i ≠ j)
    (hx : X.env.scope.names.lookup x = some .local) (hy : X.env.scope.names.lookup y = some .local) (ha : PE X a (tNOf (X.fg tq) m1)) (hb : PE X b (tNOf (X.fg tq) m2))
    (hw : swappedStores [.Tuple [.Name x px, .Name y py] kt pt] (.Tuple [a, b] k2 pt2) X.env = pure (some [x, y]))
    (hs : swapsWithSole [.Tuple [.Name x px, .Name y py] kt pt] (.Tuple [a, b] k2 pt2) pos.line X.env = pure false := by rfl) (he : starEach [a, b] X.env = (false, eval a X.env) :: starEach [b] X.env := by rfl) (he2 : starEach [b] X.env = (false, eval b X.env) :: starEach [] X.env := by rfl) :
    PS X (.Assign [.Tuple [.Name x px, .Name y py] kt pt] (.Tuple [a, b] k2 pt2) pos) (tSOf (X.fg tq) (sParN i j m1 m2)) := by
  refine PS.imp (ps_par hc hN hi hj hij hx hy (pa_cons ha (pa_cons hb pa_nil he2) he) hw hs) ?_
  rintro D σ H ⟨G, e, o, e', rel, hm, k⟩
  obtain ⟨⟨d1, e1⟩, h1, hm⟩ := Option.bind_eq_some_iff.mp hm
  obtain ⟨⟨d2, e2⟩, h2, hm⟩ := Option.bind_eq_some_iff.mp hm
  simp only at hm
  split at hm
  case isFalse => cases hm
  rename_i hz
  simp only [Bool.and_eq_true, decide_eq_true_eq, Bool.not_eq_true'] at hz
  obtain ⟨⟨⟨z1, z2⟩, z3⟩, z4⟩ := hz
  cases hm
  refine ⟨G, e, d1, e1, rel, h1, fun p xs H1 s1 r1 hp hx1 dp1 => ⟨fun a => G a ∨ a = p, e1, d2, e2, r1, h2, fun p2 ys H2 s2 r2 hp2 hx2 dp2 => ?_⟩⟩
  have np2 : ¬ (G p2 ∨ p2 = p) := by
    rintro (g | g)
    · exact r1.frn p2 (.inl g) hp2
    · rw [g, hx1] at hp2
      cases hp2
  obtain ⟨st3, r3⟩ := own_put s2 r2 hp2 np2 hx2 dp2 z1 z2
  have hx3 : H2 p = some (.lst xs) := s2.keep p _ hx1 r1.notOwn rfl
  obtain ⟨st4, r4⟩ := own_put (i := i) (ds := d1) (s1.trans st3) r3 hp (fun g => rel.frn p g hp) hx3 (dpa_mono st3.vis dp1) (by rw [List.length_set]; exact z3) (by rw [List.getElem?_set, if_neg (Ne.symm hij)]; exact z4)
  exact ⟨_, _, rfl, by
    rw [List.set_comm _ _ hij]
    exact k _ H2 st4 r4⟩
/-! ### looked at, nothing changed -/
abbrev PM := Sg → Option D
def tPOf (K : Frag) (m : PM) : TE := fun σ H Q => ∃ G e d, Rel K G σ H e ∧ m e = some d ∧ ∀ v H', ExtT H H' → LamX.Tabs K.T H' → Dp K (vis G σ e H') v d → Q v H'
abbrev PMs := Sg → Option (List D)
def tPAOf (K : Frag) (m : PMs) : TA := fun σ H Q => ∃ G e ds, Rel K G σ H e ∧ m e = some ds ∧ ∀ vs H', ExtT H H' → LamX.Tabs K.T H' → DpAll K (vis G σ e H') vs ds → Q vs H'
def pVar (i : Nat) : PM := fun e => match e[i]? with
  | some (some (.val d)) => some d
  | _ => none
def pNil : PMs := fun _ => some []
def pCons (a : PM) (r : PMs) : PMs := fun e => (a e).bind fun d => (r e).map (d :: ·)
def pLst (r : PMs) : PM := fun e => (r e).bind fun ds => if szOk ds.length = true then some (.list ds) else none
def pCall (n : Nat) (f : Fp) (r : PMs) : PM := fun e => (r e).bind fun ds => if ds.length = n then (f ds).map toD else none
theorem ExtT.trans {H H' H'' : Hp} (a : ExtT H H') (b : ExtT H' H'') : ExtT H H'' := ⟨fun x o h nt => b.keep x o (a.keep x o h nt) nt, fun x h => a.there x (b.there x h)⟩
theorem ExtT.vis {H H' : Hp} (s : ExtT H H') : Same (PB.vis G σ e H) (PB.vis G σ e H') := ext_cuts s
theorem pj_var (i : Nat) {x : Str} {pos : Pos} (hN : X.N[i]? = some x := by rfl) (hv : Vis X.env.scope x := by first | exact Or.inl rfl | exact Or.inr (Or.inl rfl) | exact Or.inr (Or.inr rfl)) (hd : (x == ("__debug__" : Str)) = false := by decide)
    (hcd : (x == ("__classdict__" : Str)) = false := by decide) : PE X (.Name x pos) (tPOf (X.fg tq) (pVar i)) := PE.imp (pe_var hN hv hd hcd) (by
  rintro σ H Q ⟨G, e, d, rel, hm, k⟩
  unfold pVar at hm
  split at hm
  · rename_i d' h
    cases hm
    obtain ⟨v, h1, h2⟩ := rel.val i _ h
    exact ⟨v, h1, k v H ⟨fun _ _ h _ => h, fun _ h => h⟩ rel.tab h2⟩
  · cases hm)
theorem pj_nil : PA X [] (tPAOf (X.fg tq) pNil) := PA.imp pa_nil (by
  rintro σ H Q ⟨G, e, d, rel, hm, k⟩
  cases hm
  exact k [] H ⟨fun _ _ h _ => h, fun _ h => h⟩ rel.tab .nil)
theorem pj_cons {a : Expr} {es : List Expr} {m : PM} {ms : PMs} (ha : PE X a (tPOf (X.fg tq) m)) (hr : PA X es (tPAOf (X.fg tq) ms)) (he : starEach (a :: es) X.env = (false, eval a X.env) :: starEach es X.env := by rfl) : PA X (a :: es) (tPAOf (X.fg tq) (pCons m ms)) := PA.imp (pa_cons ha hr he) (by
  rintro σ H Q ⟨G, e, d, rel, hm, k⟩
  obtain ⟨d1, h1, hm⟩ := Option.bind_eq_some_iff.mp hm
  obtain ⟨ds, h2, rfl⟩ := Option.map_eq_some_iff.mp hm
  exact ⟨G, e, d1, rel, h1, fun v H1 s1 t1 p1 => ⟨G, e, ds, rel.growT s1 t1, h2, fun vs H2 s2 t2 p2 => k _ _ (s1.trans s2) t2 (.cons (dp_mono s2.vis p1) p2)⟩⟩)
theorem pj_lst {es : List Expr} {ms : PMs} {pos : Pos} (h : PA X es (tPAOf (X.fg tq) ms)) : PE X (.List es pos) (tPOf (X.fg tq) (pLst ms)) := PE.imp (pe_lst h) (by
  rintro σ H Q ⟨G, e, d, rel, hm, k⟩
  obtain ⟨ds, h1, hm⟩ := Option.bind_eq_some_iff.mp hm
  split at hm
  · rename_i hz
    cases hm
    refine ⟨G, e, ds, rel, h1, fun vs H1 s1 t1 p1 => ⟨by rw [dpa_len p1]; exact szOk_le hz, fun p hp => ?_⟩⟩
    exact k _ _ (s1.trans (.of (same_new hp))) (t1.ext (same_new hp)) (dp_newL (rel.growT s1 t1).ne0 hp p1)
  · cases hm)
theorem pj_call {a : Expr} {es : List Expr} {ms : PMs} {x : Str} {p pos : Pos} {k n : Nat} {f : Fp} (o : DefOk X.prog X.w (X.fg tq) X.mg X.base k x (spP (X.fg tq) n f)) (hr : Room k X.A) (hg : Gl X x) (ha : PA X (a :: es) (tPAOf (X.fg tq) ms)) (hdb : (x == ("__debug__" : Str)) = false := by decide)
    (he : starEach (a :: es) X.env = (false, eval a X.env) :: starEach es X.env := by rfl) (hpl : (backTo pos (starEach es X.env)).any (·.1) = false := by rfl) : PE X (.Call (.Name x p) (a :: es) [] pos) (tPOf (X.fg tq) (pCall n f ms)) := by
  obtain ⟨fa, fd, ps, h1, h2, h3, h4⟩ := o.ex
  refine PE.imp (pe_call (E := E0) h1 hr hg h2 h3 h4 .nil pass0 ha hdb he hpl) ?_
  rintro σ H Q ⟨G, e, d, rel, hm, k⟩
  obtain ⟨ds, q1, hm⟩ := Option.bind_eq_some_iff.mp hm
  split at hm
  · rename_i hn
    obtain ⟨r, q2, rfl⟩ := Option.map_eq_some_iff.mp hm
    refine ⟨G, e, ds, rel, q1, fun vs H1 s1 t1 dps => ?_⟩
    show spP _ _ _ (vs ++ []) _ _ _
    rw [List.append_nil]
    have r1 := rel.growT s1 t1
    exact ⟨fun a => G a ∨ Own σ e a, ds, r, r1.ne0, dps, hn, q2, t1, fun v H2 sm tt rr => k v H2 (s1.trans sm) tt (rr.toD r1.ne0)⟩
  · cases hm
def leafD : D → Bool
  | .none => true
  | .bool _ => true
  | .int _ => true
  | .str _ => true
  | _ => false
theorem leafD_dp {H H' : Hp} {v : V} {d : D} (h : Dp K H v d) (z : leafD d = true) : Dp K H' v d := by
  cases h with
  | non => exact .non
  | bl b => exact .bl b
  | int i => exact .int i
  | str x => exact .str x
  | lst _ _ => cases z
  | tup _ _ => cases z
  | dk _ _ => cases z
  | dn _ _ => cases z
/-- two lists of one's own looked at as data, and kept -/
def mBor (i j : Nat) (m : PM) : ME := fun e => match e[i]?, e[j]? with
  | some (some (.own false di)), some (some (.own false dj)) => (m ((e.set i (some (.val (.list di)))).set j (some (.val (.list dj))))).bind fun d => if leafD d = true then some (d, e) else none
  | _, _ => none
theorem je_bor {a : Expr} (i j : Nat) {m : PM} (hij : i ≠ j) (h : PE X a (tPOf (X.fg tq) m)) : PE X a (tOf (X.fg tq) (mBor i j m)) := PE.imp h (by
  rintro σ H Q ⟨G, e, d, e', rel, hm, k⟩
  unfold mBor at hm
  split at hm
  · rename_i di dj hi hj
    obtain ⟨d1, h1, hm⟩ := Option.bind_eq_some_iff.mp hm
    split at hm
    · rename_i hz
      cases hm
      obtain ⟨p, _, st, r2, _⟩ := freeze rel hi
      obtain ⟨p2, _, st2, r3, _⟩ := freeze (i := j) (ds := dj) r2 (by rw [List.getElem?_set, if_neg hij]; exact hj)
      exact ⟨G, _, _, r3, h1, fun v H' s t dp => k v H' (.growT s) (rel.growT s t) (leafD_dp dp hz)⟩
    · cases hm
  · cases hm)
end
end PB

set_option maxHeartbeats 4000000
/-! Own layer, further: enumerate(tuple). -/
namespace PB
open PySem PySem.Spec PyProof.Rows L2
theorem mk_enum1 {v : Value} {ob : Obj} {Hh : Heap → Prop} (B : Begins v ob Hh) :
    Meets (Builtin.«enumerate.__new__» ⟨[.type "enumerate", v], []⟩) (fun _ R s => Hh s.heap ∧ R (.ok (.ret (.ref (s.heap.push ob).objs.size))) { s with heap := (s.heap.push ob).push { cls := .type "enumerate", data := .fields #[.none, .bool false, .ref s.heap.objs.size, rawInt 0, .none, .none] } }) :=
  .of_wp fun prog w A R s hyp => by
    obtain ⟨hp, g, dd, tk, os⟩ := s
    obtain ⟨hh, fin⟩ := hyp
    have se := sub_enumerate
    have itr : ∀ {A' : Around} {E' : Value → Shared → Prop} {Q' : Value → Shared → Prop}, Q' (.ref hp.objs.size) ⟨hp.push ob, g, dd, tk, os⟩ → wpAny (model prog w) A' (pyIter v) Q' E' ⟨hp, g, dd, tk, os⟩ := fun q => B.iter prog w _ _ ⟨hp, g, dd, tk, os⟩ _ hh q
    wp_walk using itr
    refine wpAny_stack_any fun st => wpAny_pure ?_
    split
    · rename_i c _ _ _ _ _
      cases (c == Value.type "enumerate")
      · wp_walk using itr
        exact ⟨_, rfl, fin⟩
      · wp_walk using itr
        exact ⟨_, rfl, fin⟩
    · wp_walk using itr
      exact ⟨_, rfl, fin⟩
section
variable {prog : Program} {w : World} {A : Around} {E : Value → Shared → Prop} {s : Shared}
theorem call_enumT {t : Addr} {its : Array Value} {Q : Value → Shared → Prop} (ht : s.heap.IsTuple t its)
    (fin : ∀ h', IsEnum h' (s.heap.objs.size + 1) s.heap.objs.size 0 .none → h'.IsTupleIter s.heap.objs.size t 0 → (∀ b ob, s.heap.get? b = some ob → h'.get? b = some ob) → Q (.ref (s.heap.objs.size + 1)) { s with heap := h' }) :
    wpAny (model prog w) A (call (.type "enumerate") [.ref t]) Q E s := by
  have B := begins_tuple t its
  refine callType_new F.called_enumerate (by decide) (F.typeCall_enumerate_1 _) (F.newCall_enumerate_1 _) (fun z => F.args_object_init_2 z _) F.entry_enumerate_new (mk_enum1 B) ⟨ht, ?_⟩
  have sz : (s.heap.push { cls := .type "tuple_iterator", data := .fields #[.ref t, .int 0 0] }).objs.size = s.heap.objs.size + 1 := Heap.size_push ..
  show _ ∧ _
  rw [sz]
  have he : IsEnum ((s.heap.push { cls := .type "tuple_iterator", data := .fields #[.ref t, .int 0 0] }).push { cls := .type "enumerate", data := .fields #[.none, .bool false, .ref s.heap.objs.size, rawInt 0, .none, .none] }) (s.heap.objs.size + 1) s.heap.objs.size 0 .none := by
    have g := Heap.get?_push_size (s.heap.push { cls := .type "tuple_iterator", data := .fields #[.ref t, .int 0 0] }) (o := { cls := .type "enumerate", data := .fields #[.none, .bool false, .ref s.heap.objs.size, rawInt 0, .none, .none] }) rfl
    rw [sz] at g
    exact g
  exact ⟨⟨_, he, rfl⟩, fin _ he ⟨_, Heap.get?_push_of_some _ (Heap.get?_push_size _ rfl), rfl, rfl⟩ fun b ob x => Heap.get?_push_of_some _ (Heap.get?_push_of_some _ x)⟩
end
/-- the tuple at a, each item in a new pair -/
def IteT (K : PySem.W.Frag) (a : Addr) : It where
  go := fun i H => ∃ (xs : List V) (x : V), SqT K H a xs ∧ xs[i]? = some x
  yld := fun i H v H' => ∃ p x, v = .ref p ∧ H p = none ∧ H' = upd H p (.tup [.int (i : Nat), x]) ∧ ∀ xs, SqT K H a xs → xs[i]? = some x
  stop := fun i H => ∃ xs : List V, SqT K H a xs ∧ xs.length ≤ i
theorem turn_enumT {P : Program} {w : World} {K : PySem.W.Frag} {elts : List Expr} {kk : Nat} {tpos : Pos} (a e it : Addr) (hae : a ≠ e) (hai : a ≠ it) :
    Turn P w K (.Tuple elts kk tpos) (IteT K a) [e, it] e (fun i h => (∃ old, IsEnum h e it ((i : Nat) : Int) old) ∧ h.IsTupleIter it a i ∧ e ≠ it) where
  mem := by simp
  obj := fun i h st b hb => by
    obtain ⟨⟨old, he⟩, ⟨o, ho, hc, hd⟩, _⟩ := st
    have q : b = e ∨ b = it := by simpa using hb
    rcases q with z | z
    · subst z
      exact ⟨_, he, fun v q => nomatch q⟩
    · subst z
      exact ⟨o, ho, fun v q => by rw [hd] at q; cases q⟩
  keep := fun i h h' st k => by
    obtain ⟨⟨old, he⟩, hi, hne⟩ := st
    exact ⟨⟨old, k e (by simp) _ he⟩, hi.at (fun o q => k it (by simp) o q), hne⟩
  item := by
    intro X hP hw hK hc i pins s σ H E I hf st hg
    subst hP hw hK
    obtain ⟨⟨old, he⟩, hit, hne⟩ := st
    obtain ⟨xs, x, hq, hx⟩ := hg
    obtain ⟨its, rv, p, _⟩ := I.tuple hq
    obtain ⟨u, hu, ru⟩ := rv.get hx
    have hel : e < s.heap.objs.size := Heap.lt_size he
    have hil : it < s.heap.objs.size := by
      obtain ⟨_, q, _⟩ := hit
      exact Heap.lt_size q
    have lt : i < its.length := (List.getElem?_eq_some_iff.mp hu).1
    have tp : s.heap.IsTuple a its.toArray := p
    have dr : Draws X.prog X.w X.A.in1 it [it, a] its.toArray.size (fun i v => its.toArray[i]? = some v) (fun i h => h.IsTupleIter it a i ∧ h.IsTuple a its.toArray) := Draws.tuple (show X.A.in1.handled = none from I.ok.hd hc) it a hai its.toArray
    refine wpAny_pyNext_enum_itemD dr he ⟨hit, tp⟩ (by simpa using lt) hne (by simp [hne, Ne.symm hae]) fun y h' tk hy ho st' hT hsz hk => ?_
    have yu : y = u := by
      have q : its[i]? = some y := by simpa using hy
      rw [hu] at q
      exact (Option.some.inj q).symm
    subst yu
    refine ⟨_, rfl, wpAny_letOwnedTupleGo_enum (s := { s with heap := h', toks := tk + 1 }) ho fun h'' he' sb => ?_⟩
    have hT2 : h''.get? s.heap.objs.size = some { cls := .type "tuple", data := .seq #[.int i tk, y] } := (sb.2 _ (Nat.ne_of_gt hel)).trans hT
    have new : ObjOk X.prog X.w (upd H s.heap.objs.size (.tup [.int (i : Nat), x])) h'' s.heap.objs.size (.tup [.int (i : Nat), x]) :=
      ⟨by show 2 ≤ sizeLine; decide, [.int i tk, y], .cons ⟨_, rfl⟩ (.cons ru .nil), ⟨_, hT2, rfl, _, rfl⟩⟩
    have I1 : Inv X pins σ (upd H s.heap.objs.size (.tup [.int (i : Nat), x])) { s with heap := h'', toks := tk + 1 } :=
      I.turnedNew (ch := [e, it]) (fun b ob hb q => (sb.2 b (fun z => hb (by simp [z]))).trans (hk b ob (fun z => hb (by simp [z])) (fun z => hb (by simp [z])) q)) hf (Nat.le_refl _) new
    refine ⟨.ref s.heap.objs.size, _, I1, rfl, ⟨_, x, rfl, I.hok.fresh (Nat.le_refl _), rfl, fun ys hy => by rw [I.tuple_inj hy hq]; exact hx⟩, ⟨⟨y, ?_⟩, st'.1.at (fun o q => (sb.2 it (Ne.symm hne)).trans q), hne⟩, fun b hb => ?_⟩
    · rw [show ((i + 1 : Nat) : Int) = (i : Int) + 1 by omega]
      exact he'
    · have hb' : b < s.heap.objs.size := by
        have q : b = e ∨ b = it := by simpa using hb
        rcases q with z | z
        · rw [z]; exact hel
        · rw [z]; exact hil
      rw [upd_ne (Nat.ne_of_lt hb')]
      exact (hf b hb).1
  done := by
    intro X hP hw hK hc i pins s σ H E I hf st hg
    subst hP hw hK
    obtain ⟨⟨old, he⟩, hit, hne⟩ := st
    obtain ⟨xs, hq, hx⟩ := hg
    obtain ⟨its, rv, p, _⟩ := I.tuple hq
    obtain ⟨f0, f1, f2, f3, f4, f5⟩ := hf it (by simp)
    have hl := rv.length
    have tp : s.heap.IsTuple a its.toArray := p
    have dr : Draws X.prog X.w X.A.in1 it [it, a] i (fun _ _ => True) (fun j h => j = i ∧ h.IsTupleIter it a i ∧ h.IsTuple a its.toArray) := {
      live := fun j h st => by
        obtain ⟨o, ho, _⟩ := st.2.1
        exact ⟨o, ho⟩
      frame := fun j h h' st hk => ⟨st.1, st.2.1.at (fun o e => hk it (by simp) o e), st.2.2.at (fun o e => hk a (by simp) o e)⟩
      item := fun j s Q E hj st _ => by
        have := st.1
        omega
      done := fun s Q E st hE => wpAny_nextOf_tuple_end (show X.A.in1.handled = none from I.ok.hd hc) st.2.1 st.2.2 (by simp; omega) hE }
    exact wpAny_pyNext_enum_endD dr he ⟨rfl, hit, tp⟩ fun h' eb => ⟨rfl, I.turned (t' := s.toks) (fun b o hb q => eb b o hb q) f0 f1 f3 f4 f5⟩
  self := fun A i s Q E st h => by
    obtain ⟨⟨_, he⟩, _⟩ := st
    exact wpAny_pyIter_enum he h
def iEnumA (K : PySem.W.Frag) (ta : TA) : TI := fun σ H R => ta σ H fun vs H1 => ∃ a xs, vs = [.ref a] ∧ ((SqL K H1 a xs ∧ R (Ite K a) H1) ∨ (SqT K H1 a xs ∧ R (IteT K a) H1))
theorem pi_enumA {X : Cx} {e : Expr} {ta : TA} {p pos tpos : Pos} {elts : List Expr} {kk : Nat} (hg : Gl X "enumerate") (hm : X.mg "enumerate" = none) (ha : PA X [e] ta) (hs : starEach [e] X.env = [(false, eval e X.env)] := by rfl) :
    PI X (.Tuple elts kk tpos) (.Call (.Name "enumerate" p) [e] [] pos) (iEnumA X.K ta) := by
  refine ⟨fun pins s σ H R I h => ?_⟩
  refine Call_ (ld_blt I hg hm boot_enumerate (PyProof.Rows.callWith_type1 (thn (ha.run pos pins s σ H _ I h) fun us s1 h1 => ?_) hs rfl))
  obtain ⟨vs, H1, I1, r1, a, xs, rfl, q1⟩ := h1
  rw [Vals.ref1 r1]
  have fr : ∀ b, b ∈ [s1.heap.objs.size + 1, s1.heap.objs.size] → FpOk X pins H1 b := fun b hb => by
    have q : b = s1.heap.objs.size + 1 ∨ b = s1.heap.objs.size := by simpa using hb
    have le : s1.heap.objs.size ≤ b := by
      rcases q with z | z <;> omega
    exact I1.fpOk le (I1.hok.fresh le)
  rcases q1 with ⟨hq, q⟩ | ⟨hq, q⟩
  · obtain ⟨its, rv, p', _⟩ := I1.list hq
    refine call_enumerate_list p'.isList fun h' he hit _ hk => wpAny_pyIter_enum he ?_
    exact ⟨s1.heap.objs.size + 1, [s1.heap.objs.size + 1, s1.heap.objs.size], _, _, H1, rfl, I1.kept (t' := s1.toks) hk, turn_enum a (s1.heap.objs.size + 1) s1.heap.objs.size, ⟨⟨.none, he⟩, hit, Nat.succ_ne_self _⟩, fr, q⟩
  · obtain ⟨its, rv, p', _⟩ := I1.tuple hq
    obtain ⟨o1, ho1, _⟩ := id p'
    have la := Heap.lt_size ho1
    refine call_enumT (show s1.heap.IsTuple a its.toArray from p') fun h' he hit hk => wpAny_pyIter_enum he ?_
    exact ⟨s1.heap.objs.size + 1, [s1.heap.objs.size + 1, s1.heap.objs.size], _, _, H1, rfl, I1.kept (t' := s1.toks) hk, turn_enumT a (s1.heap.objs.size + 1) s1.heap.objs.size (Nat.ne_of_lt (Nat.lt_succ_of_lt la)) (Nat.ne_of_lt la), ⟨⟨.none, he⟩, hit, Nat.succ_ne_self _⟩, fr, q⟩
section
variable {K : Frag} {Hv : Hp} {a : Addr} {xs : List V} {ds : List D}
theorem walk_enumT (h : SqT K Hv a xs) (t : DpAll K Hv xs ds) : WalkD K true (IteT K a) Hv (enumFrom 0 ds) where
  go := fun i H s hi => by
    rw [enum_len, ← dpa_len t] at hi
    exact ⟨xs, xs[i], same_tup s h, List.getElem?_eq_getElem hi⟩
  stop := fun i H s hi => by
    rw [enum_len, ← dpa_len t] at hi
    exact ⟨xs, same_tup s h, hi⟩
  yld := fun i H F x H' d s hF hd y => by
    obtain ⟨p, x1, rfl, hp, rfl, y1⟩ := y
    obtain ⟨d1, e1, rfl⟩ := enum_get hd
    obtain ⟨u1, q1, p1⟩ := dpa_get t e1
    have z1 := y1 xs (same_tup same_cut (same_tup s h))
    rw [q1] at z1
    cases z1
    rw [Nat.zero_add]
    exact ⟨same_new hp, pair_new hF hp (.int _) (dp_mono s p1)⟩
end
section
variable {X : Cx} {a : Expr} {ma : ME} {pos p : Pos}
def mEnumA (a : ME) : ML := fun e => (a e).bind fun r => (seqOf r.1).map fun ds => (enumFrom 0 ds, r.2)
@[simp] theorem ev_EnumA {a : ME} {e : Sg} : mEnumA a e = (a e).bind fun r => (seqOf r.1).map fun ds => (enumFrom 0 ds, r.2) := rfl
theorem ji_enumA {elts : List Expr} {kk : Nat} {tpos : Pos} (hg : Gl X "enumerate") (hm : X.mg "enumerate" = none) (ha : PE X a (tOf (X.fg tq) ma)) (he : starEach [a] X.env = (false, eval a X.env) :: starEach [] X.env := by rfl) (hs : starEach [a] X.env = [(false, eval a X.env)] := by rfl) :
    PI X (.Tuple elts kk tpos) (.Call (.Name "enumerate" p) [a] [] pos) (tIOf (X.fg tq) true (mEnumA ma)) := by
  refine PI.imp (pi_enumA hg hm (pa_cons ha pa_nil he) hs) ?_
  rintro σ H Q ⟨G, e, d, e', rel, hm, k⟩
  obtain ⟨⟨d1, e1⟩, h1, hm⟩ := Option.bind_eq_some_iff.mp hm
  obtain ⟨ds, h2, hm⟩ := Option.map_eq_some_iff.mp hm
  obtain ⟨rfl, rfl⟩ := Prod.mk.inj hm
  refine ⟨G, e, _, _, rel, h1, fun v H1 s1 r1 dp => ?_⟩
  simp only at h2
  unfold seqOf at h2
  split at h2
  · cases h2
    obtain ⟨l, xs, rfl, q1, t1⟩ := dp_list dp
    exact ⟨l, xs, rfl, .inl ⟨same_cut.seq q1, k _ H1 s1 r1 (walk_enum q1 t1)⟩⟩
  · cases h2
    obtain ⟨l, xs, rfl, q1, t1⟩ := dp_tup dp
    exact ⟨l, xs, rfl, .inr ⟨same_tup same_cut q1, k _ H1 s1 r1 (walk_enumT q1 t1)⟩⟩
  · cases h2
end
end PB

set_option maxHeartbeats 4000000
namespace PB
open PySem PySem.Spec PyProof.Rows L2
def M_is_tuple : MS :=
    (sRet (mAndV (mIsi "tuple" (mVar 0)) (mChain dLe dLe (mVar 1) (mCB fLen (mCons (mVar 0) mNil)) (mVar 2))))
def f_is_tuple : Fp := runP 3 M_is_tuple

def M_is_pair : MS :=
    (sRet (mAndV (mIsi "tuple" (mVar 0)) (mBin dEq (mCB fLen (mCons (mVar 0) mNil)) (mC (.int 2)))))
def f_is_pair : Fp := runP 1 M_is_pair

def M_rises : MS :=
    (sRet (mCB fAll (mCons (mNew (mLc (mZip (mVar 0) (mSl (mVar 0) (mPart (mC (.int 1))) mNoPart)) (bTup 2 (bCons (bName 1) (bCons (bName 2) bNil))) mYes (mBin dLtA (mVar 1) (mVar 2)) [1, 2])) mNil)))
def f_rises : Fp := runP 3 M_rises

def M_linked : MS :=
    (sSeq sLink (sRet (mNew (mLc (mIt (mVar 2)) (bName 8) (mTru (mVar 8)) (mCB fTuple (mCons (mNew (mSort (mVar 8))) mNil)) [8]))))
def f_linked : Fp := runP 9 M_linked

def M_all_groups : MS :=
    (sSeq (sAsg (mDc (mLc (mIt (mVar 1)) (bName 4) mYes (mPair (mBin dIx (mVar 4) (mC (.int 0))) (mVar 4)) [4])) (bName 2))
    (sSeq (sAsg (mDc (mLc2 (mIt (mVar 1)) (bName 4) mYes (mIt (mSl (mVar 4) (mPart (mC (.int 1))) mNoPart)) (bName 5) mYes (mPair (mVar 5) (mC (.bool true))) [4, 5] [5])) (bName 3))
    (sRetNew (mLc (mIt (mVar 0)) (bName 5) (mB (mBin (dInDn true) (mVar 5) (mVar 3))) (mGetDn2 (mVar 2) (mVar 5) (mTup (mCons (mVar 5) mNil))) [5]))))
def f_all_groups : Fp := runP 6 M_all_groups

def M_is_odd : MS :=
    (sRet (mBin dLt (mLenU (mLc (mIt (mVar 0)) (bTup 2 (bCons (bName 1) (bCons (bName 2) bNil))) mYes (mVar 1) [1, 2])) (mCB fLen (mCons (mVar 0) mNil))))
def f_is_odd : Fp := runP 3 M_is_odd

def M_columns_of : MS :=
    (sRet (mNew (mLc2 (mIt (mVar 0)) (bTup 2 (bCons (bName 2) (bCons (bTup 2 (bCons (bName 3) (bCons (bName 4) bNil))) bNil))) mYes (mIt (mVar 3)) (bName 1) mYes (mTup (mCons (mVar 2) (mCons (mVar 1) mNil))) [2, 3, 4, 1] [1])))
def f_columns_of : Fp := runP 5 M_columns_of

def M_law_deck : MS :=
    (sSeq (sIf (mB (mBin dGe (mVar 0) (mBin dPow (mC (.int 10)) (mC (.int 18))))) (sRetNew (mSz (mCons (mBin dSub (mVar 0) (mBin dPow (mC (.int 10)) (mC (.int 18)))) (mCons (mBin dMod (mVar 0) (mC (.int 2147483579))) (mCons (mVar 1) mNil))))) sSkip)
    (sRetNew (mSz (mCons (mC (.int 0)) (mCons (mBin dMod (mVar 0) (mC (.int 2147483579))) (mCons (mVar 1) mNil))))))
def f_law_deck : Fp := runP 2 M_law_deck

def M_law_pick : MS :=
    (sSeq (sIf (mB (mBin dGt (mIxOwn 0 (mC (.int 0))) (mC (.int 1)))) (sSeq (sAsg (mBin dMod (mIxOwn 0 (mC (.int 0))) (mVar 1)) (bName 3))
    (sSeq (sSetOwn 0 (mC (.int 0)) (mBin dFdiv (mIxOwn 0 (mC (.int 0))) (mVar 1)))
    (sRet (mVar 3)))) sSkip)
    (sSeq (sSetOwn 0 (mC (.int 2)) (mBin dAdd (mIxOwn 0 (mC (.int 2))) (mC (.int 1))))
    (sSeq (sAsg (mBin dMod (mBin dPow (mBin dAdd (mIxOwn 0 (mC (.int 1))) (mBin dMul (mC (.int 15485867)) (mIxOwn 0 (mC (.int 2))))) (mC (.int 5))) (mC (.int 2147483647))) (bName 2))
    (sSeq (sAsg (mBin dFdiv (mBin dMod (mBin dPow (mBin dAdd (mVar 2) (mBin dMul (mC (.int 7919)) (mIxOwn 0 (mC (.int 2))))) (mC (.int 3))) (mC (.int 2147483629))) (mC (.int 32))) (bName 3))
    (sRet (mBin dMod (mVar 3) (mVar 1)))))))
def f_law_pick : Fk := runK 4 M_law_pick

def M_law_sort : MS :=
    (sSeq (sIf (mTru (mIsi "bool" (mVar 0))) (sRet (mC (.int 1))) sSkip)
    (sSeq (sIf (mTru (mIsi "int" (mVar 0))) (sRet (mC (.int 2))) sSkip)
    (sSeq (sIf (mTru (mIsi "str" (mVar 0))) (sRet (mC (.int 3))) sSkip)
    (sSeq (sIf (mTru (mIsi "list" (mVar 0))) (sRet (mC (.int 4))) sSkip)
    (sRet (mIfE (mTru (mIsi "tuple" (mVar 0))) (mC (.int 5)) (mC (.int 6))))))))
def f_law_sort : Fp := runP 1 M_law_sort

def M_law_columns_of : MS :=
    (sSeq (sAsg (mNew (mSz mNil)) (bName 1))
    (sSeq (sFor (mIt (mVar 0)) (bName 2) (sAsg (mBin dAdd (mVar 1) (mNew (mLc (mIt (mBin dIx (mBin dIx (mVar 2) (mC (.int 1))) (mC (.int 0)))) (bName 3) mYes (mTup (mCons (mBin dIx (mVar 2) (mC (.int 0))) (mCons (mVar 3) mNil))) [3]))) (bName 1)))
    (sRet (mVar 1))))
def f_law_columns_of : Fp := runP 4 M_law_columns_of

def M_law_hung : MS :=
    (sSeq (sAsgOwn 2 (mSz mNil))
    (sSeq (sAsgOwn 3 (mListOf (mVar 0)))
    (sSeq (whileGo (mB (mNeOwn 3 (mNew (mSz mNil)))) (sSeq (sAsg (mNew (mSz (mCons (mPop 3 (mC (.int 0))) mNil))) (bName 4))
    (sSeq (sAsg (mC (.int 0)) (bName 5))
    (sSeq (whileGo (mB (mBin dLt (mVar 5) (mCB fLen (mCons (mVar 4) mNil)))) (sSeq (sAsg (mNew (mLc (mIt (mVar 1)) (bTup 2 (bCons (bName 9) (bCons (bName 10) bNil))) (mB (mBin dIn (mBin dIx (mVar 4) (mVar 5)) (mTup (mCons (mVar 9) (mCons (mVar 10) mNil))))) (mIfE (mB (mBin dEq (mVar 9) (mBin dIx (mVar 4) (mVar 5)))) (mVar 10) (mVar 9)) [9, 10])) (bName 6))
    (sSeq (sAsg (mNew (mSortSet (mNew (mLc (mIt (mVar 6)) (bName 8) (mB (mBin dIn (mVar 8) (mVar 3))) (mVar 8) [8])))) (bName 7))
    (sSeq (sAsgOwn 3 (mLc (mIt (mVar 3)) (bName 8) (mB (mBin dNotIn (mVar 8) (mVar 7))) (mVar 8) [8]))
    (sSeq (sAsg (mBin dAdd (mVar 4) (mVar 7)) (bName 4))
    (sAsg (mBin dAdd (mVar 5) (mC (.int 1))) (bName 5)))))) 50)
    (sDrop (mAppend 2 (mCB fTuple (mCons (mNew (mSort (mVar 4))) mNil))))))) 50)
    (sRet (mNew (mSort (mVar 2)))))))
def f_law_hung : Fp := runP 11 M_law_hung

def M_law_odd_ones : MS :=
    (sRet (mNew (mLc (mIt (mVar 0)) (bName 1) (mB (mBin dNe (mLenU (mLstO (mNew (mLc (mIt (mVar 1)) (bName 2) mYes (mBin dIx (mVar 2) (mC (.int 0))) [2])))) (mCB fLen (mCons (mVar 1) mNil)))) (mVar 1) [1])))
def f_law_odd_ones : Fp := runP 3 M_law_odd_ones

def M_law_calls : MS :=
    (sSeq (sIf (mOrT (mNotT (mTru (mIsi "tuple" (mVar 0)))) (mOrT (mB (mBin dNe (mCB fLen (mCons (mVar 0) mNil)) (mC (.int 2)))) (mNotT (mTru (mIsi "str" (mBin dIx (mVar 0) (mC (.int 0)))))))) (sRet (mC (.bool false))) sSkip)
    (sRet (mAndV (mIsi "str" (mBin dIx (mVar 0) (mC (.int 1)))) (mBin dIn (mVar 0) (mVar 1)))))
def f_law_calls : Fp := runP 2 M_law_calls

def M_calls_column : MS :=
    (sSeq (sIf (mNotT (mTru (mCall 1 f_is_pair (mCons (mVar 1) mNil)))) (sRet (mC (.bool false))) sSkip)
    (sSeq (sAsg (mVar 1) (bTup 2 (bCons (bName 2) (bCons (bName 3) bNil))))
    (sRet (mCB fAny (mCons (mNew (mLc (mIt (mVar 0)) (bTup 2 (bCons (bName 4) (bCons (bTup 2 (bCons (bName 5) (bCons (bName 6) bNil))) bNil))) mYes (mAndV (mBin dEq (mVar 4) (mVar 2)) (mBin dIn (mVar 3) (mVar 5))) [4, 5, 6])) mNil)))))
def f_calls_column : Fp := runP 7 M_calls_column

def M_kinds : MS :=
    (sRetNew (mCallN 2 f_all_groups (mCons (mCall 1 f_columns_of (mCons (mVar 0) mNil)) (mCons (mCall 1 f_linked (mCons (mVar 1) mNil)) mNil))))
def f_kinds : Fp := runP 2 M_kinds

def M_odd_kinds : MS :=
    (sRetNew (mSort (mNew (mLc (mIt (mCall 1 f_linked (mCons (mVar 1) mNil))) (bName 2) (mTru (mCall 1 f_is_odd (mCons (mVar 2) mNil))) (mVar 2) [2]))))
def f_odd_kinds : Fp := runP 3 M_odd_kinds

def M_law_one : MS :=
    (sRet (mBin dIx (mVar 1) (mCallK 0 2 f_law_pick (mCons (mCB fLen (mCons (mVar 1) mNil)) mNil))))
def f_law_one : Fk := runK 2 M_law_one

def M_law_are_likes : MS :=
    (sSeq (sAsg (mCall 1 f_law_columns_of (mCons (mVar 0) mNil)) (bName 2))
    (sSeq (sIf (mOrT (mNotT (mTru (mIsi "tuple" (mVar 1)))) (mB (mBin dGt (mCB fLen (mCons (mVar 1) mNil)) (mC (.int 12))))) (sRet (mC (.bool false))) sSkip)
    (sSeq (sAsg (mC .none) (bName 3))
    (sSeq (sFor (mIt (mVar 1)) (bName 4) (sSeq (sIf (mOrT (mNotT (mTru (mIsi "tuple" (mVar 4)))) (mB (mBin dNe (mCB fLen (mCons (mVar 4) mNil)) (mC (.int 2))))) (sRet (mC (.bool false))) sSkip)
    (sSeq (sIf (mOrT (mNotT (mTru (mCall 2 f_law_calls (mCons (mBin dIx (mVar 4) (mC (.int 0))) (mCons (mVar 2) mNil))))) (mOrT (mNotT (mTru (mCall 2 f_law_calls (mCons (mBin dIx (mVar 4) (mC (.int 1))) (mCons (mVar 2) mNil))))) (mB (mBin dGe (mBin dIx (mBin dIx (mVar 4) (mC (.int 0))) (mC (.int 0))) (mBin dIx (mBin dIx (mVar 4) (mC (.int 1))) (mC (.int 0))))))) (sRet (mC (.bool false))) sSkip)
    (sSeq (sIf (mAndT (mB (mBin dIsNot (mVar 3) (mC .none))) (mNotT (mB (mBin dLtA (mVar 3) (mVar 4))))) (sRet (mC (.bool false))) sSkip)
    (sAsg (mVar 4) (bName 3))))))
    (sRet (mC (.bool true)))))))
def f_law_are_likes : Fp := runP 5 M_law_are_likes

def M_law_odd : MS :=
    (sSeq (sAsg (mNew (mSz (mCons (mC .none) (mCons (mC (.bool true)) (mCons (mC (.str "")) (mCons (mC (.str "a")) (mCons (mTup mNil) (mCons (mNew (mSz mNil)) (mCons (mTup (mCons (mTup mNil) mNil)) (mCons (mC (.int 7)) (mCons (mUn dNeg (mC (.int 1))) (mCons (mTup (mCons (mC (.str "zz")) (mCons (mC (.str "a")) mNil))) (mCons (mTup (mCons (mC (.str "zz")) (mCons (mC (.int 1)) mNil))) (mCons (mBin dPow (mC (.int 10)) (mC (.int 30))) (mCons (mTup (mCons (mC (.str "ann")) (mCons (mC (.bool true)) mNil))) (mCons (mTup (mCons (mC (.int 1)) (mCons (mC (.int 2)) mNil))) (mCons (mC (.str "A")) mNil))))))))))))))))) (bName 1))
    (sRet (mCallK 0 2 f_law_one (mCons (mVar 1) mNil))))
def f_law_odd : Fk := runK 2 M_law_odd

def M_law_worth : MS :=
    (sRet (mCallK 0 2 f_law_one (mCons (mNew (mSz (mCons (mC .none) (mCons (mC (.int 1)) (mCons (mC (.int 2)) (mCons (mC (.int 3)) (mCons (mC (.int 1)) (mCons (mC (.int 2)) (mCons (mC (.str "red")) (mCons (mC (.str "blue")) (mCons (mBin dSub (mCallK 0 2 f_law_pick (mCons (mC (.int 2001)) mNil)) (mC (.int 1000))) mNil))))))))))) mNil)))
def f_law_worth : Fk := runK 1 M_law_worth

def M_law_pairs : MS :=
    (sSeq (sAsgOwn 3 (mSz mNil))
    (sSeq (sFor (mRange1 (mCallK 0 2 f_law_pick (mCons (mBin dAdd (mVar 2) (mC (.int 1))) mNil))) (bName 4) (sIf (mB (mBin dNe (mVar 1) (mNew (mSz mNil)))) (sSeq (sAsg (mNew (mSort (mNew (mSz (mCons (mCallK 0 2 f_law_one (mCons (mVar 1) mNil)) (mCons (mCallK 0 2 f_law_one (mCons (mVar 1) mNil)) mNil)))))) (bUnl 2 (bCons (bName 5) (bCons (bName 6) bNil))))
    (sIf (mB (mBin dNe (mBin dIx (mVar 5) (mC (.int 0))) (mBin dIx (mVar 6) (mC (.int 0))))) (sDrop (mAppend 3 (mTup (mCons (mVar 5) (mCons (mVar 6) mNil))))) sSkip)) sSkip))
    (sRet (mCB fTuple (mCons (mNew (mSortSet (mVar 3))) mNil)))))
def f_law_pairs : Fk := runK 7 M_law_pairs

def M_is_link__calls_column : MS :=
    (sSeq (sIf (mOrT (mNotT (mTru (mCall 1 f_is_pair (mCons (mVar 2) mNil)))) (mNotT (mTru (mCB fAll (mCons (mNew (mLc (mIt (mVar 2)) (bName 5) mYes (mCallF 0 "calls_column" 2 f_calls_column (mCons (mVar 1) (mCons (mVar 5) mNil))) [5])) mNil))))) (sRet (mC (.bool false))) sSkip)
    (sSeq (sAsg (mVar 2) (bTup 2 (bCons (bName 3) (bCons (bName 4) bNil))))
    (sRet (mBin dLt (mBin dIx (mVar 3) (mC (.int 0))) (mBin dIx (mVar 4) (mC (.int 0)))))))
def f_is_link__calls_column : Fp := runF 6 "calls_column" M_is_link__calls_column

def M_law_houses : MS :=
    (sSeq (sAsgOwn 3 (mSz mNil))
    (sSeq (sFor (mIt (mSl (mNew (mSz (mCons (mC (.str "ann")) (mCons (mC (.str "bo")) (mCons (mC (.str "cy")) (mCons (mC (.str "dee")) mNil)))))) mNoPart (mPart (mBin dAdd (mC (.int 1)) (mCallK 0 2 f_law_pick (mCons (mVar 1) mNil)))))) (bName 4) (sSeq (sAsg (mCB fTuple (mCons (mNew (mLc (mIt (mNew (mSz (mCons (mC (.str "a")) (mCons (mC (.str "b")) (mCons (mC (.str "c")) (mCons (mC (.str "d")) mNil))))))) (bName 8) (mB (mBin dGt (mCallK 0 2 f_law_pick (mCons (mC (.int 3)) mNil)) (mC (.int 0)))) (mVar 8) [8])) mNil)) (bName 5))
    (sSeq (sAsg (mIfE (mB (mBin dNe (mVar 5) (mTup mNil))) (mVar 5) (mTup (mCons (mC (.str "a")) mNil))) (bName 5))
    (sSeq (sAsgOwn 6 (mSz mNil))
    (sSeq (sFor (mRange1 (mCallK 0 2 f_law_pick (mCons (mBin dAdd (mVar 2) (mC (.int 1))) mNil))) (bName 7) (sDrop (mAppend 6 (mTup (mCons (mBin dAdd (mBin dMul (mC (.int 3)) (mVar 7)) (mCallK 0 2 f_law_pick (mCons (mC (.int 3)) mNil))) (mCons (mCB fTuple (mCons (mNew (mLc (mIt (mVar 5)) (bName 8) mYes (mCallK 0 1 f_law_worth mNil) [8])) mNil)) mNil))))))
    (sDrop (mAppend 3 (mTup (mCons (mVar 4) (mCons (mTup (mCons (mVar 5) (mCons (mCB fTuple (mCons (mVar 6) mNil)) mNil))) mNil))))))))))
    (sRet (mCB fTuple (mCons (mVar 3) mNil)))))
def f_law_houses : Fk := runK 9 M_law_houses

def M_law_likes : MS :=
    (sSeq (sAsg (mCall 1 f_law_columns_of (mCons (mVar 1) mNil)) (bName 3))
    (sSeq (sAsgOwn 4 (mSz mNil))
    (sSeq (sFor (mIt (mVar 3)) (bName 5) (sFor (mIt (mVar 3)) (bName 6) (sIf (mAndT (mB (mBin dLt (mBin dIx (mVar 5) (mC (.int 0))) (mBin dIx (mVar 6) (mC (.int 0))))) (mAndT (mB (mBin dEq (mBin dIx (mVar 5) (mC (.int 1))) (mBin dIx (mVar 6) (mC (.int 1))))) (mB (mBin dGt (mCallK 0 2 f_law_pick (mCons (mC (.int 4)) mNil)) (mC (.int 0)))))) (sDrop (mAppend 4 (mTup (mCons (mVar 5) (mCons (mVar 6) mNil))))) sSkip)))
    (sSeq (sIf (mTru (mVar 2)) (sAsg (mBin dAdd (mSl (mVar 4) mNoPart (mPart (mC (.int 8)))) (mNew (mListOf (mCallK 0 3 f_law_pairs (mCons (mVar 3) (mCons (mC (.int 4)) mNil)))))) (bName 4)) sSkip)
    (sRet (mCB fTuple (mCons (mNew (mSortSet (mSl (mVar 4) mNoPart (mPart (mC (.int 12)))))) mNil)))))))
def f_law_likes : Fk := runK 7 M_law_likes

def M_are_links__calls_column : MS :=
    (sSeq (sIf (mNotT (mTru (mCall 3 f_is_tuple (mCons (mVar 2) (mCons (mC (.int 0)) (mCons (mC (.int 12)) mNil)))))) (sRet (mC (.bool false))) sSkip)
    (sRet (mAndV (mCB fAll (mCons (mNew (mLc (mIt (mVar 2)) (bName 3) mYes (mCallV 0 "calls_column" 3 f_is_link__calls_column (mCons (mVar 1) (mCons (mVar 3) mNil))) [3])) mNil)) (mCall 1 f_rises (mCons (mVar 2) mNil)))))
def f_are_links__calls_column : Fp := runF 4 "calls_column" M_are_links__calls_column

def M_are_likes : MS :=
    (sRet (mCallG 3 f_are_links__calls_column (mCons (mVar 0) (mCons (mVar 1) mNil))))
def f_are_likes : Fp := runP 2 M_are_likes

def M_law_same (fr : Fp) : MS :=
    (sSeq (sIf (mB (mBin dNe (mCall 1 f_law_sort (mCons (mVar 0) mNil)) (mCall 1 f_law_sort (mCons (mVar 1) mNil)))) (sRet (mC (.bool false))) sSkip)
    (sSeq (sIf (mAndT (mB (mBin dGt (mCall 1 f_law_sort (mCons (mVar 0) mNil)) (mC (.int 3)))) (mB (mBin dLt (mCall 1 f_law_sort (mCons (mVar 0) mNil)) (mC (.int 6))))) (sSeq (sIf (mB (mBin dNe (mCB fLen (mCons (mVar 0) mNil)) (mCB fLen (mCons (mVar 1) mNil)))) (sRet (mC (.bool false))) sSkip)
    (sRet (mBin dEq (mNew (mLc (mEnumA (mVar 0)) (bTup 2 (bCons (bName 2) (bCons (bName 3) bNil))) (mNotT (mTru (mCall 2 fr (mCons (mVar 3) (mCons (mBin dIx (mVar 1) (mVar 2)) mNil))))) (mVar 2) [2, 3])) (mNew (mSz mNil))))) sSkip)
    (sRet (mBin dEq (mVar 0) (mVar 1)))))
def f_law_same : Nat → Fp
  | 0 => fun _ => none
  | n + 1 => runP 4 (M_law_same (f_law_same n))

def M_law_spoilt (fr : Fk) : MS :=
    (sSeq (sIf (mAndT (mTru (mIsi2 "tuple" "list" (mVar 1))) (mAndT (mB (mBin dGt (mCB fLen (mCons (mVar 1) mNil)) (mC (.int 0)))) (mB (mBin dGt (mCallK 0 2 f_law_pick (mCons (mC (.int 5)) mNil)) (mC (.int 0)))))) (sSeq (sAsgOwn 2 (mListOf (mVar 1)))
    (sSeq (sAsg (mCallK 0 2 f_law_pick (mCons (mLenOwn 2) mNil)) (bName 3))
    (sSeq (sSetOwn 2 (mVar 3) (mCallK 0 2 fr (mCons (mIxOwn 2 (mVar 3)) mNil)))
    (sRet (mIfE (mTru (mIsi "tuple" (mVar 1))) (mCB fTuple (mCons (mVar 2) mNil)) (mVar 2)))))) sSkip)
    (sSeq (sIf (mTru (mIsi2 "tuple" "list" (mVar 1))) (sSeq (sAsg (mIfE (mTru (mIsi "tuple" (mVar 1))) (mNew (mListOf (mVar 1))) (mCB fTuple (mCons (mVar 1) mNil))) (bName 4))
    (sRet (mBin dIx (mNew (mSz (mCons (mVar 4) (mCons (mBin dAdd (mVar 1) (mSl (mVar 1) mNoPart (mPart (mC (.int 1))))) (mCons (mSl (mVar 1) (mPart (mC (.int 1))) mNoPart) (mCons (mUn dRev (mVar 1)) (mCons (mC .none) mNil))))))) (mCallK 0 2 f_law_pick (mCons (mC (.int 5)) mNil))))) sSkip)
    (sSeq (sIf (mTru (mIsi "int" (mVar 1))) (sRet (mBin dIx (mNew (mSz (mCons (mBin dAdd (mVar 1) (mC (.int 1))) (mCons (mBin dSub (mVar 1) (mC (.int 1))) (mCons (mC (.bool true)) (mCons (mC .none) (mCons (mC (.int 1000)) (mCons (mBin dAdd (mBin dPow (mC (.int 10)) (mC (.int 6))) (mC (.int 1))) (mCons (mCB fStr (mCons (mVar 1) mNil)) mNil))))))))) (mCallK 0 2 f_law_pick (mCons (mC (.int 7)) mNil)))) sSkip)
    (sRet (mBin dIx (mNew (mSz (mCons (mC .none) (mCons (mC (.int 7)) (mCons (mC (.str "n")) (mCons (mC (.str "")) (mCons (mC (.str "A")) (mCons (mC (.str "abcdefghi")) (mCons (mC (.str "first")) (mCons (mC (.str "is")) mNil)))))))))) (mCallK 0 2 f_law_pick (mCons (mC (.int 8)) mNil)))))))
def f_law_spoilt : Nat → Fk
  | 0 => fun _ _ => none
  | n + 1 => runK 5 (M_law_spoilt (f_law_spoilt n))

def M_law : MS :=
    (sSeq (sFor (mIt (mSl (mBin dAdd (mNew (mSz (mCons (mC (.int 0)) mNil))) (mVar 0)) mNoPart (mPart (mC (.int 10))))) (bName 1) (sSeq (sAsgOwn 2 (mCallN 2 f_law_deck (mCons (mVar 1) (mCons (mC (.int 2)) mNil))))
    (sSeq (sAsg (mCallK 2 3 f_law_houses (mCons (mC (.int 4)) (mCons (mC (.int 1)) mNil))) (bName 3))
    (sSeq (sAsg (mCall 1 f_law_columns_of (mCons (mVar 3) mNil)) (bName 4))
    (sSeq (sAsg (mNew (mSz mNil)) (bName 5))
    (sSeq (sFor (mIt (mVar 4)) (bName 6) (sAsg (mBin dAdd (mVar 5) (mNew (mLc (mIt (mVar 4)) (bName 15) (mB (mBin dLt (mBin dIx (mVar 6) (mC (.int 0))) (mBin dIx (mVar 15) (mC (.int 0))))) (mTup (mCons (mVar 6) (mCons (mVar 15) mNil))) [15]))) (bName 5)))
    (sSeq (sAsg (mNew (mSz (mCons (mCB fTuple (mCons (mSl (mVar 5) mNoPart (mPart (mC (.int 12)))) mNil)) (mCons (mCB fTuple (mCons (mSl (mVar 5) mNoPart (mPart (mC (.int 13)))) mNil)) (mCons (mC .none) (mCons (mCallK 2 1 f_law_odd mNil) (mCons (mTup mNil) (mCons (mNew (mSz (mCons (mTup mNil) mNil))) mNil)))))))) (bName 7))
    (sSeq (sFor (mRange1 (mC (.int 6))) (bName 8) (sSeq (sAsg (mCallK 2 3 f_law_likes (mCons (mVar 3) (mCons (mBin dEq (mBin dMod (mVar 8) (mC (.int 2))) (mC (.int 0))) mNil))) (bName 10))
    (sSeq (sAsg (mCallK 2 2 (f_law_spoilt 20) (mCons (mVar 10) mNil)) (bName 11))
    (sSeq (sAsg (mBin dAdd (mVar 7) (mNew (mSz (mCons (mVar 10) (mCons (mVar 11) (mCons (mUn dRev (mVar 10)) (mCons (mNew (mListOf (mVar 10))) (mCons (mCB fTuple (mCons (mNew (mLc (mIt (mVar 10)) (bName 16) mYes (mUn dRev (mVar 16)) [16])) mNil)) mNil)))))))) (bName 7))
    (sSeq (sAsg (mCall 2 f_law_hung (mCons (mVar 4) (mCons (mVar 10) mNil))) (bName 12))
    (sSeq (sParN 13 14 (mCallN 2 f_kinds (mCons (mVar 3) (mCons (mVar 10) mNil))) (mCallN 2 f_odd_kinds (mCons (mVar 3) (mCons (mVar 10) mNil))))
    (sSeq (sIf (mNotT (mTru (mBor 13 14 (pCall 2 (f_law_same 20) (pCons (pLst (pCons (pVar 13) (pCons (pVar 14) pNil))) (pCons (pLst (pCons (pVar 12) (pCons (pCall 1 f_law_odd_ones (pCons (pVar 12) pNil)) pNil))) pNil)))))) (sRet (mC (.bool false))) sSkip)
    (sSeq (sDrop (mAppend 13 (mC (.int 1))))
    (sSeq (sDrop (mAppend 14 (mC (.int 1))))
    (sIf (mB (mBin dNe (mCall 2 f_kinds (mCons (mVar 3) (mCons (mVar 10) mNil))) (mVar 12))) (sRet (mC (.bool false))) sSkip))))))))))
    (sFor (mIt (mVar 7)) (bName 9) (sIf (mNotT (mTru (mCall 2 (f_law_same 20) (mCons (mCall 2 f_are_likes (mCons (mVar 3) (mCons (mVar 9) mNil))) (mCons (mCall 2 f_law_are_likes (mCons (mVar 3) (mCons (mVar 9) mNil))) mNil))))) (sRet (mC (.bool false))) sSkip))))))))))
    (sRet (mC (.bool true))))
def f_law : Fp := runP 17 M_law
end PB

set_option maxHeartbeats 4000000
namespace PB
open PySem PySem.Spec PyProof.Rows L2

/-! ### comprehensions that change nothing -/
theorem lcGo_pure {bind : MG} {test : MT} {elt : ME} {vs : List Nat} {e0 : Sg} (t : D → Bool) (g : D → D) (eb : D → Sg) : ∀ {items : List D}, (∀ d ∈ items, bind d e0 = some (eb d)) → (∀ d ∈ items, test (eb d) = some (t d, eb d)) →
    (∀ d ∈ items, t d = true → elt (eb d) = some (g d, eb d)) → (∀ d ∈ items, wipeC (eb d) vs = some e0) → lcGo bind test elt vs items e0 = some ((items.filter t).map g, e0)
  | [], _, _, _, _ => rfl
  | d :: ds, hb, ht, he, hw => by
    have m : d ∈ d :: ds := List.mem_cons_self
    have ih := lcGo_pure t g eb (items := ds) (fun x h => hb x (List.mem_cons_of_mem _ h)) (fun x h => ht x (List.mem_cons_of_mem _ h)) (fun x h => he x (List.mem_cons_of_mem _ h)) (fun x h => hw x (List.mem_cons_of_mem _ h))
    unfold lcGo
    rw [hb d m]
    simp only [Option.bind_some]
    rw [ht d m]
    simp only [Option.bind_some]
    cases h : t d with
    | true =>
      rw [if_pos rfl, he d m h]
      simp only [Option.bind_some]
      rw [hw d m]
      simp only [Option.bind_some]
      rw [ih, List.filter_cons, if_pos h]
      rfl
    | false =>
      rw [if_neg Bool.false_ne_true, hw d m]
      simp only [Option.bind_some]
      rw [ih, List.filter_cons, if_neg (by rw [h]; exact Bool.false_ne_true)]
theorem lc_pure {mi : ML} {bind : MG} {test : MT} {elt : ME} {vs : List Nat} {e : Sg} {items : List D} (t : D → Bool) (g : D → D) (eb : D → Sg) (e0 : Sg) (h1 : mi e = some (items, e)) (hz : items.length ≤ 100000) (h0 : wipeC e vs = some e0) (hr : restore e e0 vs = e)
    (hb : ∀ d ∈ items, bind d e0 = some (eb d)) (ht : ∀ d ∈ items, test (eb d) = some (t d, eb d)) (he : ∀ d ∈ items, t d = true → elt (eb d) = some (g d, eb d)) (hw : ∀ d ∈ items, wipeC (eb d) vs = some e0) :
    mLc mi bind test elt vs e = some ((items.filter t).map g, e) := by
  unfold mLc
  rw [h1]
  simp only [Option.bind_some]
  rw [if_pos (show szOk items.length = true from decide_eq_true hz), h0]
  simp only [Option.bind_some]
  rw [lcGo_pure t g eb hb ht he hw]
  simp only [Option.map_some]
  rw [hr]

/-! ### kinds of things -/
def isTup : D → Bool | .tuple _ => true | _ => false
def isLst : D → Bool | .list _ => true | _ => false
def isStr : D → Bool | .str _ => true | _ => false
def noDict : D → Bool | .dict _ => false | _ => true
/-! ### is_whole -/
def whole : D → Bool | .int _ => true | _ => false
end PB

namespace PB
open PySem PySem.Spec PyProof.Rows L2

/-! ### small data -/
def fine (W : Nat) : Nat → D → Bool
  | _, .none => true
  | _, .bool _ => true
  | _, .int i => decide (i.natAbs ≤ 10 ^ 31 + W)
  | _, .str s => decide (s.length ≤ 2000) && PyData.strOk s
  | n + 1, .list ds => decide (ds.length ≤ W) && ds.all (fine W n)
  | n + 1, .tuple ds => decide (ds.length ≤ W) && ds.all (fine W n)
  | _, _ => false
theorem fine_noDict {W n : Nat} {d : D} (h : fine W n d = true) : noDict d = true := by
  cases d <;> first | rfl | (cases n <;> cases h)
theorem fine_str {W n : Nat} {s : Str} (h : fine W n (.str s) = true) : s.length ≤ 2000 ∧ PyData.strOk s = true := by
  cases n <;> simpa [fine] using h
theorem fine_tup {W n : Nat} {ds : List D} (h : fine W n (.tuple ds) = true) : ∃ m, n = m + 1 ∧ ds.length ≤ W ∧ ∀ d ∈ ds, fine W m d = true := by
  cases n with
  | zero => cases h
  | succ m =>
    have h' : (decide (ds.length ≤ W) && ds.all (fine W m)) = true := h
    simp only [Bool.and_eq_true, decide_eq_true_eq, List.all_eq_true] at h'
    exact ⟨m, rfl, h'.1, h'.2⟩
theorem fine_list {W n : Nat} {ds : List D} (h : fine W n (.list ds) = true) : ∃ m, n = m + 1 ∧ ds.length ≤ W ∧ ∀ d ∈ ds, fine W m d = true := by
  cases n with
  | zero => cases h
  | succ m =>
    have h' : (decide (ds.length ≤ W) && ds.all (fine W m)) = true := h
    simp only [Bool.and_eq_true, decide_eq_true_eq, List.all_eq_true] at h'
    exact ⟨m, rfl, h'.1, h'.2⟩
theorem fine_lay {W : Nat} : ∀ {n : Nat} {d : D}, fine W n d = true → d.canLay0 = true ∧ d.depth ≤ n := by
  intro n
  induction n with
  | zero =>
    intro d h
    cases d <;> simp_all [fine, PyData.canLay0, PyData.depth]
  | succ n ih =>
    have all : ∀ ds : List D, (∀ d ∈ ds, fine W n d = true) → PyData.canLayAll0 ds = true ∧ PyData.depthAll ds ≤ n := by
      intro ds
      induction ds with
      | nil => intro _; simp [PyData.canLayAll0, PyData.depthAll]
      | cons d r ih2 =>
        intro h
        have h1 := ih (h d List.mem_cons_self)
        have h2 := ih2 fun x hx => h x (List.mem_cons_of_mem _ hx)
        simp [PyData.canLayAll0, PyData.depthAll, h1.1, h2.1]
        omega
    intro d h
    cases d with
    | none => simp [PyData.canLay0, PyData.depth]
    | bool b => simp [PyData.canLay0, PyData.depth]
    | int i => simp [PyData.canLay0, PyData.depth]
    | str s =>
      have := fine_str h
      simp [PyData.canLay0, PyData.depth, this.2]
    | list ds =>
      obtain ⟨m, hm, _, h2⟩ := fine_list h
      cases hm
      have := all ds h2
      simp [PyData.canLay0, PyData.depth, this.1]
      omega
    | tuple ds =>
      obtain ⟨m, hm, _, h2⟩ := fine_tup h
      cases hm
      have := all ds h2
      simp [PyData.canLay0, PyData.depth, this.1]
      omega
    | dict k => cases h
theorem fine_shaped {W n : Nat} {d : D} (h : fine W n d = true) (hn : n ≤ 60) : SeqAt.shaped d = true := by
  obtain ⟨h1, h2⟩ := fine_lay h
  unfold SeqAt.shaped
  simp [h1]
  omega
theorem shaped_list {W n : Nat} {ds : List D} (h : ∀ d ∈ ds, fine W n d = true) (hn : n ≤ 60) : SeqAt.shaped (.list ds) = true := by
  have h2 : fine (max W ds.length) (n + 1) (.list ds) = true := by
    have up : ∀ (m : Nat) (d : D), fine W m d = true → fine (max W ds.length) m d = true := by
      intro m
      induction m with
      | zero =>
        intro d h
        cases d <;> simp_all [fine]
        omega
      | succ m ih =>
        intro d h
        cases d <;> simp_all [fine]
        all_goals omega
    simp only [fine, Bool.and_eq_true, decide_eq_true_eq, List.all_eq_true]
    exact ⟨Nat.le_max_right _ _, fun d hd => up n d (h d hd)⟩
  unfold SeqAt.shaped
  obtain ⟨q1, q2⟩ := fine_lay h2
  simp [q1]
  omega
theorem eqv_nil (ds : List D) : PyData.eqv (.list ds) (.list []) = ds.isEmpty := by
  cases ds <;> rfl
theorem shaped_nil : SeqAt.shaped (.list []) = true := by decide +kernel
theorem dEq_nil {W n : Nat} {ds : List D} (h : ∀ d ∈ ds, fine W n d = true) (hn : n ≤ 60) : dEq (.list ds) (.list []) = some (.bool ds.isEmpty) := by
  unfold dEq
  rw [shaped_list h hn, shaped_nil, eqv_nil]
  rfl
theorem dNe_nil {W n : Nat} {ds : List D} (h : ∀ d ∈ ds, fine W n d = true) (hn : n ≤ 60) : dNe (.list ds) (.list []) = some (.bool (!ds.isEmpty)) := by
  unfold dNe
  rw [shaped_list h hn, shaped_nil, eqv_nil]
  rfl

/-! ### names -/
def okSign : D → Bool
  | .str s => !sLt s "a" && !sLt "z" s
  | _ => false
def name : D → Bool
  | .str s => decide (1 ≤ s.length) && decide (s.length ≤ 8) && (signs s).all okSign
  | _ => false
theorem bools_map (l : List D) (p : D → Bool) : bools (l.map fun d => .bool (p d)) = some (l.map p) := by
  induction l with
  | nil => rfl
  | cons d r ih => simp [bools, ih]
theorem filter_true (l : List D) : l.filter (fun _ => true) = l := by simp
theorem signs_len (s : Str) : (signs s).length = s.length := by
  unfold signs
  rw [List.length_map, Array.length_toList]
  rfl
theorem signs_str {s : Str} {d : D} (h : d ∈ signs s) : ∃ c, d = .str ⟨#[c]⟩ := by
  unfold signs at h
  obtain ⟨c, _, h2⟩ := List.mem_map.mp h
  exact ⟨c, h2.symm⟩
theorem chain_sign {d : D} (h : isStr d = true) (i : Nat) (e : Sg) (hi : e[i]? = some (some (.val d))) : mChain dLe dLe (mC (.str "a")) (mVar i) (mC (.str "z")) e = some (.bool (okSign d), e) := by
  cases d <;> first | (cases h; done) | skip
  simp [mChain, mC, mVar, hi, dLe, dCmp, okSign]
  split <;> simp_all
end PB

namespace PB
open PySem PySem.Spec PyProof.Rows L2

theorem lc_signs {s : Str} (hs : s.length ≤ 2000) : mLc (mIt (mVar 0)) (bName 1) mYes (mChain dLe dLe (mC (.str "a")) (mVar 1) (mC (.str "z"))) [1] [some (.val (.str s)), none] = some ((signs s).map fun d => .bool (okSign d), [some (.val (.str s)), none]) := by
  rw [lc_pure (items := signs s) (fun _ => true) (fun d => .bool (okSign d)) (fun d => [some (.val (.str s)), some (.val d)]) [some (.val (.str s)), none] rfl (by rw [signs_len]; omega) rfl rfl (fun d _ => rfl) (fun d _ => rfl) (fun d hd _ => ?_) (fun d _ => rfl), filter_true]
  obtain ⟨c, rfl⟩ := signs_str hd
  exact chain_sign rfl 1 _ rfl
theorem fLen_s {s : Str} (h : s.length ≤ 2000) : fLen [.str s] = some (.int s.length) := by
  have hz : szOk s.length = true := decide_eq_true (by omega)
  simp [fLen, hz]
theorem filter_empty (l : List D) (p : D → Bool) : (l.filter fun d => !p d).isEmpty = l.all p := by
  induction l with
  | nil => rfl
  | cons d r ih => cases h : p d <;> simp [h, ih]
theorem strOk_sign {c : Nat} (h : c < 0x110000) : PyData.strOk ⟨#[c]⟩ = true := by
  simp [PyData.strOk, h]
theorem fine_signs {s : Str} (h : PyData.strOk s = true) : ∀ d ∈ signs s, fine 1 0 d = true := by
  intro d hd
  unfold signs at hd
  obtain ⟨c, hc, rfl⟩ := List.mem_map.mp hd
  have : c < 0x110000 := by
    unfold PyData.strOk at h
    have := Array.all_eq_true_iff_forall_mem.mp h c (by simpa using hc)
    simpa using this
  show (decide ((⟨#[c]⟩ : Str).length ≤ 2000) && PyData.strOk ⟨#[c]⟩) = true
  rw [strOk_sign this]
  rfl
theorem fine_filter {W n : Nat} {ds : List D} {p : D → Bool} (h : ∀ d ∈ ds, fine W n d = true) : ∀ d ∈ ds.filter p, fine W n d = true := fun d hd => h d (List.mem_filter.mp hd).1

end PB

namespace PB
open PySem PySem.Spec PyProof.Rows L2

/-! ### rising -/
open PySem.W (alike alikeAll dataLt)
def ltD (a b : D) : Bool := dataLt a b
def risesB : List D → Bool
  | a :: b :: r => ltD a b && risesB (b :: r)
  | _ => true
/-- tuples that can be compared -/
def tupsAlike (ds : List D) : Prop := ∀ a ∈ ds, ∀ b ∈ ds, isTup a = true ∧ a.depth ≤ 8 ∧ alike a b = true
/-- all numbers, or all texts, or tuples alike -/
def Alike (ds : List D) : Prop := (∀ d ∈ ds, whole d = true) ∨ (∀ d ∈ ds, isStr d = true) ∨ tupsAlike ds
theorem Alike.lt {ds : List D} (h : Alike ds) {a b : D} (ha : a ∈ ds) (hb : b ∈ ds) : dLtA a b = some (.bool (ltD a b)) := by
  rcases h with h | h | h
  · have h1 := h a ha
    have h2 := h b hb
    cases a <;> cases h1
    cases b <;> cases h2
    unfold ltD
    rw [W.dataLt_int]
    rfl
  · have h1 := h a ha
    have h2 := h b hb
    cases a <;> cases h1
    cases b <;> cases h2
    unfold ltD
    rw [W.dataLt_str]
    rfl
  · obtain ⟨h1, h2, h3⟩ := h a ha b hb
    obtain ⟨h4, _, _⟩ := h b hb a ha
    have na := noDc_alike _ (h a ha a ha).2.2
    have nb := noDc_alike _ (h b hb b hb).2.2
    cases a <;> cases h1
    cases b <;> cases h4
    simp [dLtA, h3, h2, ltD, na, nb]
theorem cutD1 (ds : List D) : cutD ds (some 1) none = ds.drop 1 := by
  unfold cutD
  rw [show HT.sIx ds.length 0 (some 1) = min 1 ds.length from HT.sIx_nat ds.length 0 1, HT.sIx_none]
  cases ds with
  | nil => rfl
  | cons x r =>
    rw [show min 1 (x :: r).length = 1 by rw [List.length_cons]; omega]
    show (List.take ((x :: r).length - 1) r) = r
    rw [List.length_cons, Nat.add_sub_cancel]
    exact List.take_length
def ltP : D → Bool
  | .tuple [a, b] => ltD a b
  | _ => false
theorem zip_rises : ∀ ds : List D, (zipD ds (ds.drop 1)).all ltP = risesB ds
  | [] => rfl
  | [_] => rfl
  | a :: b :: r => by
    show (ltP (.tuple [a, b]) && (zipD (b :: r) ((b :: r).drop 1)).all ltP) = (ltD a b && risesB (b :: r))
    rw [zip_rises (b :: r)]
    rfl
def pairE (c : D) : D → Sg
  | .tuple [a, b] => [some (.val c), some (.val a), some (.val b)]
  | _ => []
theorem zip_mem {as bs : List D} {d : D} (h : d ∈ zipD as bs) : ∃ a b, a ∈ as ∧ b ∈ bs ∧ d = .tuple [a, b] := by
  obtain ⟨i, hi⟩ := List.mem_iff_getElem?.mp h
  obtain ⟨a, b, h1, h2, h3⟩ := zipD_get hi
  exact ⟨a, b, List.mem_of_getElem? h1, List.mem_of_getElem? h2, h3⟩
theorem lc_zip {c : D} {ds : List D} (hc : zipOf c (if isTup c then .tuple (ds.drop 1) else .list (ds.drop 1)) = some (zipD ds (ds.drop 1))) (hs : dSl c (some 1) none = some (if isTup c then .tuple (ds.drop 1) else .list (ds.drop 1))) (h : Alike ds) (hl : ds.length ≤ 1000) :
    mLc (mZip (mVar 0) (mSl (mVar 0) (mPart (mC (.int 1))) mNoPart)) (bTup 2 (bCons (bName 1) (bCons (bName 2) bNil))) mYes (mBin dLtA (mVar 1) (mVar 2)) [1, 2] [some (.val c), none, none] = some ((zipD ds (ds.drop 1)).map fun d => .bool (ltP d), [some (.val c), none, none]) := by
  rw [lc_pure (items := zipD ds (ds.drop 1)) (fun _ => true) (fun d => .bool (ltP d)) (pairE c) [some (.val c), none, none] ?_ ?_ rfl rfl (fun d hd => ?_) (fun d _ => rfl) (fun d hd _ => ?_) (fun d hd => ?_), filter_true]
  · simp [hs]
    simpa using hc
  · rw [zipD_len]
    omega
  · obtain ⟨a, b, _, _, rfl⟩ := zip_mem hd
    rfl
  · obtain ⟨a, b, h1, h2, rfl⟩ := zip_mem hd
    have := (h.lt h1 (List.mem_of_mem_drop h2))
    simp [pairE, this, ltP]
  · obtain ⟨a, b, _, _, rfl⟩ := zip_mem hd
    rfl
theorem e_rises_t {ds : List D} (h : Alike ds) (hl : ds.length ≤ 1000) : f_rises [.tuple ds] = some (.val (.bool (risesB ds))) := by
  have := lc_zip (c := .tuple ds) (ds := ds) rfl (by show some (PyData.tuple (cutD ds (some 1) none)) = _; rw [cutD1]; rfl) h hl
  simp [f_rises, M_rises, runP_def, startE, this, fAll, bools_map, List.all_map, ← zip_rises]
theorem e_rises_l {ds : List D} (h : Alike ds) (hl : ds.length ≤ 1000) : f_rises [.list ds] = some (.val (.bool (risesB ds))) := by
  have := lc_zip (c := .list ds) (ds := ds) rfl (by show some (PyData.list (cutD ds (some 1) none)) = _; rw [cutD1]; rfl) h hl
  simp [f_rises, M_rises, runP_def, startE, this, fAll, bools_map, List.all_map, ← zip_rises]

end PB

namespace PB
open PySem PySem.Spec PyProof.Rows L2

/-! ### the program's looks -/
def tupN (lo hi : Nat) : D → Bool
  | .tuple ds => decide (lo ≤ ds.length) && decide (ds.length ≤ hi)
  | _ => false
theorem e_is_tuple {d : D} {lo hi : Nat} (h : noDict d = true) : f_is_tuple [d, .int lo, .int hi] = some (.val (.bool (tupN lo hi d))) := by
  cases d with
  | tuple ds =>
    by_cases a : (lo : Int) ≤ ds.length
    · have a' : lo ≤ ds.length := by omega
      by_cases b : (ds.length : Int) ≤ hi
      · have b' : ds.length ≤ hi := by omega
        simp [f_is_tuple, M_is_tuple, runP_def, startE, tupN, a, b, a', b']
      · have b' : ¬ ds.length ≤ hi := by omega
        simp [f_is_tuple, M_is_tuple, runP_def, startE, tupN, a, b, a', b']
    · have a' : ¬ lo ≤ ds.length := by omega
      simp [f_is_tuple, M_is_tuple, runP_def, startE, tupN, a, a']
  | dict k => cases h
  | _ => simp [f_is_tuple, M_is_tuple, runP_def, startE, tupN]
def pair (d : D) : Bool := tupN 2 2 d
theorem e_is_pair {d : D} (h : noDict d = true) : f_is_pair [d] = some (.val (.bool (pair d))) := by
  cases d with
  | tuple ds =>
    have hd : dEq (.int ds.length) (.int 2) = some (.bool (pair (.tuple ds))) := by
      have : ((ds.length : Int) == 2) = pair (.tuple ds) := by
        rw [Bool.eq_iff_iff]
        simp [pair, tupN]
        omega
      rw [← this]
      simp [dEq, SeqAt.shaped, PyData.canLay0, PyData.depth, PyData.eqv]
    simp [f_is_pair, M_is_pair, runP_def, startE, hd]
  | dict k => cases h
  | _ => simp [f_is_pair, M_is_pair, runP_def, startE, pair, tupN]
def worth : D → Bool
  | .int i => decide (-1000000 ≤ i) && decide (i ≤ 1000000)
  | d => name d
def idOk : D → Bool
  | .int i => decide (0 ≤ i) && decide (i ≤ 999)
  | _ => false
/-- columns -/
def cols : D → Bool
  | .tuple ds => decide (1 ≤ ds.length) && decide (ds.length ≤ 5) && ds.all name && risesB ds
  | _ => false
theorem name_str {d : D} (h : name d = true) : isStr d = true := by
  cases d <;> first | rfl | cases h
theorem alike_names {ds : List D} (h : ds.all name = true) : Alike ds := .inr <| .inl fun d hd => name_str (List.all_eq_true.mp h d hd)
end PB

namespace PB
open PySem PySem.Spec PyProof.Rows L2

theorem pair_inv {d : D} (h : pair d = true) : ∃ a b, d = .tuple [a, b] := by
  cases d with
  | tuple ds =>
    simp only [pair, tupN, Bool.and_eq_true, decide_eq_true_eq] at h
    match ds, h with
    | [a, b], _ => exact ⟨a, b, rfl⟩
  | _ => cases h
def fstD : D → D
  | .tuple (a :: _) => a
  | _ => .none
def worthN (d : D) : Bool := isNone d || worth d
def rowOk (k : Nat) : D → Bool
  | .tuple ws => decide (ws.length = k) && ws.all worthN
  | _ => false
def numRow (k : Nat) : D → Bool
  | .tuple [a, b] => idOk a && rowOk k b
  | _ => false
theorem numRow_no {k : Nat} {d : D} (h : pair d = false) : numRow k d = false := by
  unfold numRow
  split
  · simp [pair, tupN] at h
  · rfl
def rowsOk (k : Nat) : D → Bool
  | .tuple rs => decide (rs.length ≤ 8) && rs.all (numRow k) && risesB (rs.map fstD)
  | _ => false
theorem numRow_inv {k : Nat} {d : D} (h : numRow k d = true) : ∃ a b, d = .tuple [a, b] ∧ idOk a = true ∧ rowOk k b = true := by
  unfold numRow at h
  split at h
  · rw [Bool.and_eq_true] at h
    exact ⟨_, _, rfl, h.1, h.2⟩
  · cases h
theorem idOk_whole {d : D} (h : idOk d = true) : whole d = true := by
  cases d <;> first | rfl | cases h
theorem lc_ids {c : D} {ds : List D} (h : ∀ d ∈ ds, pair d = true) (hl : ds.length ≤ 1000) :
    mLc (mIt (mVar 1)) (bTup 2 (bCons (bName 3) (bCons (bName 4) bNil))) mYes (mVar 3) [3, 4] [some (.val c), some (.val (.tuple ds)), none, none, none] =
      some (ds.map fstD, [some (.val c), some (.val (.tuple ds)), none, none, none]) := by
  rw [lc_pure (items := ds) (fun _ => true) fstD (fun d => match d with | .tuple [a, b] => [some (.val c), some (.val (.tuple ds)), none, some (.val a), some (.val b)] | _ => []) [some (.val c), some (.val (.tuple ds)), none, none, none] rfl (by omega) rfl rfl (fun d hd => ?_) (fun d _ => rfl) (fun d hd _ => ?_) (fun d hd => ?_), filter_true]
  all_goals
    obtain ⟨a, b, rfl⟩ := pair_inv (h d hd)
    rfl
def table : D → Bool
  | .tuple [.tuple cs, r] => cols (.tuple cs) && rowsOk cs.length r
  | _ => false
theorem cols_tup {d : D} (h : cols d = true) : ∃ cs, d = .tuple cs := by
  cases d <;> first | exact ⟨_, rfl⟩ | cases h
theorem table_no {a b : D} (h : cols a = false) : table (.tuple [a, b]) = false := by
  cases a <;> first | rfl | (simp [table, h])
theorem table_nop {d : D} (h : pair d = false) : table d = false := by
  unfold table
  split
  · simp [pair, tupN] at h
  · rfl
def house : D → Bool
  | .tuple [a, b] => name a && table b
  | _ => false
theorem house_no {d : D} (h : pair d = false) : house d = false := by
  unfold house
  split
  · simp [pair, tupN] at h
  · rfl
theorem house_inv {d : D} (h : house d = true) : ∃ a b, d = .tuple [a, b] ∧ name a = true ∧ table b = true := by
  unfold house at h
  split at h
  · rw [Bool.and_eq_true] at h
    exact ⟨_, _, rfl, h.1, h.2⟩
  · cases h
def houses : D → Bool
  | .tuple hs => decide (1 ≤ hs.length) && decide (hs.length ≤ 4) && hs.all house && risesB (hs.map fstD)
  | _ => false
theorem lc_hn {ds : List D} (h : ∀ d ∈ ds, pair d = true) (hl : ds.length ≤ 1000) :
    mLc (mIt (mVar 0)) (bTup 2 (bCons (bName 2) (bCons (bName 3) bNil))) mYes (mVar 2) [2, 3] [some (.val (.tuple ds)), none, none, none] = some (ds.map fstD, [some (.val (.tuple ds)), none, none, none]) := by
  rw [lc_pure (items := ds) (fun _ => true) fstD (fun d => match d with | .tuple [a, b] => [some (.val (.tuple ds)), none, some (.val a), some (.val b)] | _ => []) [some (.val (.tuple ds)), none, none, none] rfl (by omega) rfl rfl (fun d hd => ?_) (fun d _ => rfl) (fun d hd _ => ?_) (fun d hd => ?_), filter_true]
  all_goals
    obtain ⟨a, b, rfl⟩ := pair_inv (h d hd)
    rfl
end PB

namespace PB
open PySem PySem.Spec PyProof.Rows L2
/-! ### the columns and the rows of houses -/
theorem lc2Go_pure {bind bind1 : MG} {test1 : MT} {mi1 : ML} {elt : ME} {vs vs1 : List Nat} {e0 : Sg} (g : D → List D) (eb ei : D → Sg) (its : D → List D) : ∀ {items : List D}, (∀ d ∈ items, bind d e0 = some (eb d)) → (∀ d ∈ items, mi1 (eb d) = some (its d, eb d)) →
    (∀ d ∈ items, wipeC (eb d) vs1 = some (ei d)) → (∀ d ∈ items, lcGo bind1 test1 elt vs1 (its d) (ei d) = some (g d, ei d)) → (∀ d ∈ items, wipeC (ei d) vs = some e0) → lc2Go bind mYes mi1 bind1 test1 elt vs vs1 items e0 = some (items.flatMap g, e0)
  | [], _, _, _, _, _ => rfl
  | d :: r, h1, h2, h3, h4, h5 => by
    have ih := lc2Go_pure (bind := bind) (bind1 := bind1) (test1 := test1) (mi1 := mi1) (elt := elt) (vs := vs) (vs1 := vs1) (e0 := e0) g eb ei its (items := r) (fun x hx => h1 x (List.mem_cons_of_mem _ hx)) (fun x hx => h2 x (List.mem_cons_of_mem _ hx)) (fun x hx => h3 x (List.mem_cons_of_mem _ hx)) (fun x hx => h4 x (List.mem_cons_of_mem _ hx)) (fun x hx => h5 x (List.mem_cons_of_mem _ hx))
    rw [lc2Go, h1 d List.mem_cons_self]
    simp only [Option.bind_some, ev_Yes, if_true]
    rw [h2 d List.mem_cons_self]
    simp only [Option.bind_some]
    rw [h3 d List.mem_cons_self]
    simp only [Option.bind_some]
    rw [h4 d List.mem_cons_self]
    simp only [Option.bind_some]
    rw [h5 d List.mem_cons_self]
    simp only [Option.bind_some]
    rw [ih]
    rfl
def secD : D → D
  | .tuple [_, b] => b
  | _ => .none
/-- (name, ((column, ..), ((number, ..), ..))) -/
def hsH : D → Bool
  | .tuple [.str _, .tuple [.tuple cs, .tuple rs]] => decide (cs.length ≤ 5) && decide (rs.length ≤ 8) && cs.all isStr && rs.all (fun r => pair r && whole (fstD r))
  | _ => false
def hsOk : D → Bool
  | .tuple hs => decide (hs.length ≤ 4) && hs.all hsH
  | _ => false
theorem hsH_inv {h : D} (q : hsH h = true) : ∃ s cs rs, h = .tuple [.str s, .tuple [.tuple cs, .tuple rs]] ∧ cs.length ≤ 5 ∧ rs.length ≤ 8 ∧ (∀ c ∈ cs, isStr c = true) ∧ (∀ r ∈ rs, pair r = true ∧ whole (fstD r) = true) := by
  unfold hsH at q
  split at q
  · simp only [Bool.and_eq_true, decide_eq_true_eq, List.all_eq_true] at q
    exact ⟨_, _, _, rfl, q.1.1.1, q.1.1.2, q.1.2, q.2⟩
  · cases q
def colH : D → List D
  | .tuple [n, .tuple [.tuple cs, _]] => cs.map fun c => .tuple [n, c]
  | _ => []
def rowH : D → List D
  | .tuple [n, .tuple [_, .tuple rs]] => rs.map fun r => .tuple [n, fstD r]
  | _ => []
def colsL (hs : List D) : List D := hs.flatMap colH
def rowsL (hs : List D) : List D := hs.flatMap rowH
theorem flat_len (f : D → List D) (k : Nat) : ∀ hs : List D, (∀ h ∈ hs, (f h).length ≤ k) → (hs.flatMap f).length ≤ hs.length * k
  | [], _ => by simp
  | h :: r, q => by
    rw [List.flatMap_cons, List.length_append, List.length_cons, Nat.succ_mul]
    have := q h List.mem_cons_self
    have := flat_len f k r fun x hx => q x (List.mem_cons_of_mem _ hx)
    omega
theorem colsL_len {hs : List D} (h : ∀ x ∈ hs, hsH x = true) : (colsL hs).length ≤ hs.length * 5 := flat_len colH 5 hs fun x hx => by
  obtain ⟨s, cs, rs, rfl, h1, h2, _⟩ := hsH_inv (h x hx)
  simpa [colH] using h1
theorem rowsL_len {hs : List D} (h : ∀ x ∈ hs, hsH x = true) : (rowsL hs).length ≤ hs.length * 8 := flat_len rowH 8 hs fun x hx => by
  obtain ⟨s, cs, rs, rfl, h1, h2, _⟩ := hsH_inv (h x hx)
  simpa [rowH] using h2
/-! .. as the law finds them -/
def slo (o : Option D) : Option Sl := o.map Sl.val
theorem loop_cols {c : D} : ∀ (hs acc : List D) (s2 : Option D), (∀ x ∈ hs, hsH x = true) → acc.length + hs.length * 5 ≤ 1000 →
    ∃ t2, forGo (bName 2) (sAsg (mBin dAdd (mVar 1) (mNew (mLc (mIt (mBin dIx (mBin dIx (mVar 2) (mC (.int 1))) (mC (.int 0)))) (bName 3) mYes (mTup (mCons (mBin dIx (mVar 2) (mC (.int 0))) (mCons (mVar 3) mNil))) [3]))) (bName 1)) hs [some (.val c), some (.val (.list acc)), slo s2, none] =
      some (.next, [some (.val c), some (.val (.list (acc ++ colsL hs))), slo t2, none])
  | [], acc, s2, _, _ => ⟨s2, by simp [forGo, colsL]⟩
  | h :: hs, acc, s2, q, hl => by
    obtain ⟨s, cs, rs, rfl, h1, h2, h3, h4⟩ := hsH_inv (q _ List.mem_cons_self)
    rw [List.length_cons] at hl
    obtain ⟨t2, ih⟩ := loop_cols (c := c) hs (acc ++ cs.map fun c => .tuple [.str s, c]) (some (.tuple [.str s, .tuple [.tuple cs, .tuple rs]])) (fun x hx => q x (List.mem_cons_of_mem _ hx)) (by rw [List.length_append, List.length_map]; omega)
    refine ⟨t2, ?_⟩
    have bn : bName 2 (.tuple [.str s, .tuple [.tuple cs, .tuple rs]]) [some (.val c), some (.val (.list acc)), slo s2, none] = some [some (.val c), some (.val (.list acc)), some (.val (.tuple [.str s, .tuple [.tuple cs, .tuple rs]])), none] := by cases s2 <;> rfl
    have lc : mLc (mIt (mBin dIx (mBin dIx (mVar 2) (mC (.int 1))) (mC (.int 0)))) (bName 3) mYes (mTup (mCons (mBin dIx (mVar 2) (mC (.int 0))) (mCons (mVar 3) mNil))) [3] [some (.val c), some (.val (.list acc)), some (.val (.tuple [.str s, .tuple [.tuple cs, .tuple rs]])), none] =
        some (cs.map fun c => .tuple [.str s, c], [some (.val c), some (.val (.list acc)), some (.val (.tuple [.str s, .tuple [.tuple cs, .tuple rs]])), none]) := by
      rw [lc_pure (items := cs) (fun _ => true) (fun c => .tuple [.str s, c]) (fun x => [some (.val c), some (.val (.list acc)), some (.val (.tuple [.str s, .tuple [.tuple cs, .tuple rs]])), some (.val x)]) [some (.val c), some (.val (.list acc)), some (.val (.tuple [.str s, .tuple [.tuple cs, .tuple rs]])), none] (by simp) (by omega) rfl rfl (fun _ _ => rfl) (fun _ _ => rfl) (fun d _ _ => by simp [szOk]) (fun _ _ => rfl), filter_true]
    have hz : szOk (acc.length + cs.length) = true := decide_eq_true (by omega)
    have hz' : szOk (acc.length + (cs.map fun c => PyData.tuple [.str s, c]).length) = true := by rw [List.length_map]; exact hz
    rw [forGo, bn]
    simp only [Option.bind_some, ev_Asg, ev_Bin, ev_New, lc, ev_Var1 (s := some (.val c)), Option.map_some, dAdd, hz', if_true]
    rw [show bName 1 (.list (acc ++ cs.map fun c => .tuple [.str s, c])) [some (.val c), some (.val (.list acc)), some (.val (.tuple [.str s, .tuple [.tuple cs, .tuple rs]])), none] = some [some (.val c), some (.val (.list (acc ++ cs.map fun c => .tuple [.str s, c]))), some (.val (.tuple [.str s, .tuple [.tuple cs, .tuple rs]])), none] from rfl]
    simp only [Option.map_some, Option.bind_some]
    have ih' : forGo (bName 2) _ hs [some (.val c), some (.val (.list (acc ++ cs.map fun c => .tuple [.str s, c]))), some (.val (.tuple [.str s, .tuple [.tuple cs, .tuple rs]])), none] = _ := ih
    rw [ih', List.append_assoc]
    rfl
theorem e_law_columns_of {hs : List D} (h : ∀ x ∈ hs, hsH x = true) (hl : hs.length ≤ 4) : f_law_columns_of [.tuple hs] = some (.val (.list (colsL hs))) := by
  obtain ⟨t2, q⟩ := loop_cols (c := .tuple hs) hs [] none h (by simp; omega)
  have q' : forGo (bName 2) _ hs [some (.val (.tuple hs)), some (.val (.list [])), none, none] = _ := q
  have bn : bName 1 (.list []) [some (.val (.tuple hs)), none, none, none] = some [some (.val (.tuple hs)), some (.val (.list [])), none, none] := rfl
  simp [f_law_columns_of, M_law_columns_of, runP_def, startE, bn, q']
theorem loop_rows {c : D} : ∀ (hs acc : List D) (s2 : Option D), (∀ x ∈ hs, hsH x = true) → acc.length + hs.length * 8 ≤ 1000 →
    ∃ t2, forGo (bName 2) (sAsg (mBin dAdd (mVar 1) (mNew (mLc (mIt (mBin dIx (mBin dIx (mVar 2) (mC (.int 1))) (mC (.int 1)))) (bName 3) mYes (mTup (mCons (mBin dIx (mVar 2) (mC (.int 0))) (mCons (mBin dIx (mVar 3) (mC (.int 0))) mNil))) [3]))) (bName 1)) hs [some (.val c), some (.val (.list acc)), slo s2, none] =
      some (.next, [some (.val c), some (.val (.list (acc ++ rowsL hs))), slo t2, none])
  | [], acc, s2, _, _ => ⟨s2, by simp [forGo, rowsL]⟩
  | h :: hs, acc, s2, q, hl => by
    obtain ⟨s, cs, rs, rfl, h1, h2, h3, h4⟩ := hsH_inv (q _ List.mem_cons_self)
    rw [List.length_cons] at hl
    obtain ⟨t2, ih⟩ := loop_rows (c := c) hs (acc ++ rs.map fun r => .tuple [.str s, fstD r]) (some (.tuple [.str s, .tuple [.tuple cs, .tuple rs]])) (fun x hx => q x (List.mem_cons_of_mem _ hx)) (by rw [List.length_append, List.length_map]; omega)
    refine ⟨t2, ?_⟩
    have bn : bName 2 (.tuple [.str s, .tuple [.tuple cs, .tuple rs]]) [some (.val c), some (.val (.list acc)), slo s2, none] = some [some (.val c), some (.val (.list acc)), some (.val (.tuple [.str s, .tuple [.tuple cs, .tuple rs]])), none] := by cases s2 <;> rfl
    have lc : mLc (mIt (mBin dIx (mBin dIx (mVar 2) (mC (.int 1))) (mC (.int 1)))) (bName 3) mYes (mTup (mCons (mBin dIx (mVar 2) (mC (.int 0))) (mCons (mBin dIx (mVar 3) (mC (.int 0))) mNil))) [3] [some (.val c), some (.val (.list acc)), some (.val (.tuple [.str s, .tuple [.tuple cs, .tuple rs]])), none] =
        some (rs.map fun r => .tuple [.str s, fstD r], [some (.val c), some (.val (.list acc)), some (.val (.tuple [.str s, .tuple [.tuple cs, .tuple rs]])), none]) := by
      rw [lc_pure (items := rs) (fun _ => true) (fun r => .tuple [.str s, fstD r]) (fun x => [some (.val c), some (.val (.list acc)), some (.val (.tuple [.str s, .tuple [.tuple cs, .tuple rs]])), some (.val x)]) [some (.val c), some (.val (.list acc)), some (.val (.tuple [.str s, .tuple [.tuple cs, .tuple rs]])), none] (by simp) (by omega) rfl rfl (fun _ _ => rfl) (fun _ _ => rfl) (fun d hd _ => by obtain ⟨a, b, rfl⟩ := pair_inv (h4 d hd).1; simp [szOk, fstD]) (fun _ _ => rfl), filter_true]
    have hz' : szOk (acc.length + (rs.map fun r => PyData.tuple [.str s, fstD r]).length) = true := by rw [List.length_map]; exact decide_eq_true (by omega)
    rw [forGo, bn]
    simp only [Option.bind_some, ev_Asg, ev_Bin, ev_New, lc, ev_Var1 (s := some (.val c)), Option.map_some, dAdd, hz', if_true]
    rw [show bName 1 (.list (acc ++ rs.map fun r => .tuple [.str s, fstD r])) [some (.val c), some (.val (.list acc)), some (.val (.tuple [.str s, .tuple [.tuple cs, .tuple rs]])), none] = some [some (.val c), some (.val (.list (acc ++ rs.map fun r => .tuple [.str s, fstD r]))), some (.val (.tuple [.str s, .tuple [.tuple cs, .tuple rs]])), none] from rfl]
    simp only [Option.map_some, Option.bind_some]
    have ih' : forGo (bName 2) _ hs [some (.val c), some (.val (.list (acc ++ rs.map fun r => .tuple [.str s, fstD r]))), some (.val (.tuple [.str s, .tuple [.tuple cs, .tuple rs]])), none] = _ := ih
    rw [ih', List.append_assoc]
    rfl
/-- houses have that shape -/
theorem houses_shape {d : D} (h : houses d = true) : ∃ hs, d = .tuple hs ∧ hs.length ≤ 4 ∧ (∀ x ∈ hs, hsH x = true) ∧ ∀ x ∈ hs, house x = true := by
  unfold houses at h
  split at h
  · rename_i hs
    simp only [Bool.and_eq_true, decide_eq_true_eq] at h
    refine ⟨hs, rfl, by have := h.1.1; omega, fun x hx => ?_, fun x hx => List.all_eq_true.mp h.1.2 x hx⟩
    obtain ⟨a, b, rfl, na, tb⟩ := house_inv (List.all_eq_true.mp h.1.2 x hx)
    have sa := name_str na
    cases a <;> cases sa
    unfold table at tb
    split at tb
    · rename_i cs r
      rw [Bool.and_eq_true] at tb
      obtain ⟨tc, tr⟩ := tb
      unfold rowsOk at tr
      split at tr
      · rename_i rs
        simp only [Bool.and_eq_true, decide_eq_true_eq] at tr
        simp only [cols, Bool.and_eq_true, decide_eq_true_eq] at tc
        simp only [hsH, Bool.and_eq_true, decide_eq_true_eq, List.all_eq_true]
        refine ⟨⟨⟨by omega, tr.1.1⟩, fun c hc => ?_⟩, fun r hr => ?_⟩
        · first | exact name_str (List.all_eq_true.mp tc.1.2 c hc) | exact name_str (List.all_eq_true.mp tc.2.1 c hc)
        · obtain ⟨u, v, rfl, q, _⟩ := numRow_inv (List.all_eq_true.mp tr.1.2 r hr)
          exact ⟨rfl, idOk_whole q⟩
      · cases tr
    · cases tb
  · cases h
end PB

namespace PB
open PySem PySem.Spec PyProof.Rows L2
theorem shaped_int (i : Int) : SeqAt.shaped (.int i) = true := by simp [SeqAt.shaped, PyData.canLay0, PyData.depth]
theorem shaped_bool (b : Bool) : SeqAt.shaped (.bool b) = true := by simp [SeqAt.shaped, PyData.canLay0, PyData.depth]
theorem eqv_pair (a b c d : D) : PyData.eqv (.tuple [a, b]) (.tuple [c, d]) = (PyData.eqv a c && PyData.eqv b d) := by
  rw [PyData.eqv, PyData.eqvAll, PyData.eqvAll, PyData.eqvAll, Bool.and_true]
theorem eqv_strs (x y : Str) : PyData.eqv (.str x) (.str y) = (x == y) := by rw [PyData.eqv]
theorem eqv_ints (x y : Int) : PyData.eqv (.int x) (.int y) = (x == y) := by rw [PyData.eqv]
theorem eqv_str {s : Str} {d : D} (h : PyData.eqv (.str s) d = true) : d = .str s := by
  cases d with
  | str x =>
    rw [eqv_strs, beq_iff_eq] at h
    rw [h]
  | _ => rw [PyData.eqv] at h; cases h
theorem eqv_int {s : Int} {d : D} (h : PyData.eqv (.int s) d = true) (hw : (isStr d || whole d) = true) : d = .int s := by
  cases d with
  | int x =>
    rw [eqv_ints, beq_iff_eq] at h
    rw [h]
  | str x => rw [PyData.eqv] at h; cases h
  | _ => cases hw
end PB

namespace PB
open PySem PySem.Spec PyProof.Rows L2
open PySem.W (alike alikeAll dataLt)
/-! ### members: columns, or rows -/
def ColMem (mem : List D) : Prop := ∀ m ∈ mem, ∃ s c, m = .tuple [.str s, .str c] ∧ name (.str c) = true
def RowMem (mem : List D) : Prop := ∀ m ∈ mem, ∃ s i, m = .tuple [.str s, .int i]
structure MemOk (mem : List D) : Prop where
  kind : ColMem mem ∨ RowMem mem
  fin : ∀ m ∈ mem, fine 1000 1 m = true
theorem isIn_mem {d : D} {mem : List D} (h : isIn d mem = true) : ∃ m ∈ mem, PyData.eqv m d = true := by
  unfold isIn at h
  simpa using h
theorem in_inv {mem : List D} (h : MemOk mem) {a b : D} (q : isIn (.tuple [a, b]) mem = true) : isStr a = true ∧ ((isStr b || whole b) = true → (.tuple [a, b]) ∈ mem ∧ (name b || whole b) = true) := by
  obtain ⟨m, hm, e⟩ := isIn_mem q
  rcases h.kind with k | k
  · obtain ⟨s, c, rfl, hc⟩ := k m hm
    rw [eqv_pair, Bool.and_eq_true] at e
    obtain rfl := eqv_str e.1
    obtain rfl := eqv_str e.2
    exact ⟨rfl, fun _ => ⟨hm, by rw [hc]; rfl⟩⟩
  · obtain ⟨s, c, rfl⟩ := k m hm
    rw [eqv_pair, Bool.and_eq_true] at e
    obtain rfl := eqv_str e.1
    refine ⟨rfl, fun hw => ?_⟩
    obtain rfl := eqv_int e.2 hw
    exact ⟨hm, by rw [show whole (.int c) = true from rfl, Bool.or_true]⟩
def callsB (mem : List D) : D → Bool
  | .tuple [a, b] => (isStr b || whole b) && isIn (.tuple [a, b]) mem
  | _ => false
theorem callsB_mem {mem : List D} (h : MemOk mem) {d : D} (q : callsB mem d = true) : d ∈ mem := by
  unfold callsB at q
  split at q
  · rw [Bool.and_eq_true] at q
    exact ((in_inv h q.2).2 q.1).1
  · cases q
theorem callsB_no {mem : List D} {d : D} (h : pair d = false) : callsB mem d = false := by
  unfold callsB
  split
  · simp [pair, tupN] at h
  · rfl
theorem mem_shaped {mem : List D} (h : MemOk mem) : SeqAt.shaped (.list mem) = true := shaped_list h.fin (by decide)
theorem dIn_at {W n : Nat} {d : D} {mem : List D} (h : MemOk mem) (hd : fine W n d = true) (hn : n ≤ 60) : dIn d (.list mem) = some (.bool (isIn d mem)) := by
  unfold dIn
  rw [fine_shaped hd hn, mem_shaped h]
  rfl
theorem isi_str {d : D} (h : noDict d = true) : kitD d "str" = some (isStr d) := by
  cases d with
  | dict k => cases h
  | _ => simp [isStr]
theorem isi_tup {d : D} (h : noDict d = true) : kitD d "tuple" = some (isTup d) := by
  cases d with
  | dict k => cases h
  | _ => simp [isTup]
/-! ### links -/
def linkB (mem : List D) : D → Bool
  | .tuple [x, y] => callsB mem x && callsB mem y && ltD (fstD x) (fstD y)
  | _ => false
theorem linkB_no {mem : List D} {d : D} (h : pair d = false) : linkB mem d = false := by
  unfold linkB
  split
  · simp [pair, tupN] at h
  · rfl
theorem mem_fst {mem : List D} (h : MemOk mem) {d : D} (hd : d ∈ mem) : ∃ s b, d = .tuple [.str s, b] := by
  rcases h.kind with k | k
  · obtain ⟨s, c, rfl, _⟩ := k d hd
    exact ⟨s, _, rfl⟩
  · obtain ⟨s, c, rfl⟩ := k d hd
    exact ⟨s, _, rfl⟩
theorem ltD_str (x y : Str) : ltD (.str x) (.str y) = sLt x y := by
  unfold ltD
  rw [W.dataLt_str]
  rfl
theorem linkB_inv {mem : List D} (h : MemOk mem) {d : D} (q : linkB mem d = true) : ∃ x y, d = .tuple [x, y] ∧ x ∈ mem ∧ y ∈ mem := by
  unfold linkB at q
  split at q
  · simp only [Bool.and_eq_true] at q
    exact ⟨_, _, rfl, callsB_mem h q.1.1, callsB_mem h q.1.2⟩
  · cases q
/-! members are alike -/
theorem mem_alike {mem : List D} (h : MemOk mem) {x y : D} (hx : x ∈ mem) (hy : y ∈ mem) : alike x y = true := by
  rcases h.kind with k | k
  · obtain ⟨s, c, rfl, _⟩ := k x hx
    obtain ⟨s', c', rfl, _⟩ := k y hy
    simp [alike, alikeAll]
  · obtain ⟨s, c, rfl⟩ := k x hx
    obtain ⟨s', c', rfl⟩ := k y hy
    simp [alike, alikeAll]
theorem mem_depth {mem : List D} (h : MemOk mem) {x : D} (hx : x ∈ mem) : x.depth = 1 ∧ isTup x = true := by
  rcases h.kind with k | k
  · obtain ⟨s, c, rfl, _⟩ := k x hx
    simp [PyData.depth, PyData.depthAll, isTup]
  · obtain ⟨s, c, rfl⟩ := k x hx
    simp [PyData.depth, PyData.depthAll, isTup]
theorem alikes {mem : List D} (h : MemOk mem) : ∀ (xs ys : List D), (∀ x ∈ xs, x ∈ mem) → (∀ y ∈ ys, y ∈ mem) → alikeAll xs ys = true
  | [], _, _, _ => by simp [alikeAll]
  | _ :: _, [], _, _ => by simp [alikeAll]
  | x :: xs, y :: ys, hx, hy => by
    rw [alikeAll, mem_alike h (hx x List.mem_cons_self) (hy y List.mem_cons_self), alikes h xs ys (fun z hz => hx z (List.mem_cons_of_mem _ hz)) (fun z hz => hy z (List.mem_cons_of_mem _ hz))]
    rfl
theorem depths {mem : List D} (h : MemOk mem) : ∀ (xs : List D), (∀ x ∈ xs, x ∈ mem) → PyData.depthAll xs ≤ 1
  | [], _ => by simp [PyData.depthAll]
  | x :: xs, hx => by
    rw [PyData.depthAll, (mem_depth h (hx x List.mem_cons_self)).1]
    have := depths h xs fun z hz => hx z (List.mem_cons_of_mem _ hz)
    omega
/-- tuples of members can be compared -/
theorem tuples_alike {mem ds : List D} (h : MemOk mem) (hd : ∀ d ∈ ds, ∃ xs, d = .tuple xs ∧ ∀ x ∈ xs, x ∈ mem) : tupsAlike ds := fun a ha b hb => by
  obtain ⟨xs, rfl, hx⟩ := hd a ha
  obtain ⟨ys, rfl, hy⟩ := hd b hb
  refine ⟨rfl, ?_, ?_⟩
  · rw [PyData.depth]
    have := depths h xs hx
    omega
  · rw [alike]
    exact alikes h xs ys hx hy
theorem mems_alike {mem ds : List D} (h : MemOk mem) (hd : ∀ d ∈ ds, d ∈ mem) : tupsAlike ds := fun a ha b hb =>
  ⟨(mem_depth h (hd a ha)).2, by rw [(mem_depth h (hd a ha)).1]; omega, mem_alike h (hd a ha) (hd b hb)⟩
theorem links_tuples {mem ds : List D} (h : MemOk mem) (hd : ds.all (linkB mem) = true) : ∀ d ∈ ds, ∃ xs, d = .tuple xs ∧ ∀ x ∈ xs, x ∈ mem := fun d hx => by
  obtain ⟨x, y, rfl, h1, h2⟩ := linkB_inv h (List.all_eq_true.mp hd d hx)
  refine ⟨_, rfl, fun z hz => ?_⟩
  simp only [List.mem_cons, List.not_mem_nil, or_false] at hz
  rcases hz with rfl | rfl
  · exact h1
  · exact h2
def linksB (mem : List D) : D → Bool
  | .tuple ds => decide (ds.length ≤ 12) && ds.all (linkB mem) && risesB ds
  | _ => false
/-! ### keys -/
def keyB (mem : List D) : D → Bool
  | .tuple ds => decide (1 ≤ ds.length) && decide (ds.length ≤ 3) && ds.all (callsB mem) && risesB ds
  | _ => false
theorem calls_mems {mem ds : List D} (h : MemOk mem) (hd : ds.all (callsB mem) = true) : ∀ d ∈ ds, d ∈ mem := fun d hx => callsB_mem h (List.all_eq_true.mp hd d hx)
def keysB (mem : List D) : D → Bool
  | .tuple ds => decide (ds.length ≤ 3) && ds.all (keyB mem) && risesB ds
  | _ => false
theorem keys_tuples {mem ds : List D} (h : MemOk mem) (hd : ds.all (keyB mem) = true) : ∀ d ∈ ds, ∃ xs, d = .tuple xs ∧ ∀ x ∈ xs, x ∈ mem := fun d hx => by
  have q := List.all_eq_true.mp hd d hx
  unfold keyB at q
  split at q
  · simp only [Bool.and_eq_true] at q
    exact ⟨_, rfl, calls_mems h q.1.2⟩
  · cases q
end PB

namespace PB
open PySem PySem.Spec PyProof.Rows L2
open PySem.W (alike alikeAll dataLt AllAlike)
/-! ### sorted(set(..)) and rising -/
theorem rises_pw : ∀ {ds : List D}, risesB ds = true → ds.Pairwise (fun a b => dataLt a b = true)
  | [], _ => .nil
  | [_], _ => by simp
  | a :: b :: r, h => by
    have h' : (ltD a b && risesB (b :: r)) = true := h
    rw [Bool.and_eq_true] at h'
    have ih := rises_pw h'.2
    refine List.pairwise_cons.mpr ⟨fun x hx => ?_, ih⟩
    rcases List.mem_cons.mp hx with e | hx
    · rw [e]; exact h'.1
    · exact lt_trans h'.1 ((List.pairwise_cons.mp ih).1 x hx)
theorem pw_rises : ∀ {ds : List D}, ds.Pairwise (fun a b => dataLt a b = true) → risesB ds = true
  | [], _ => rfl
  | [_], _ => rfl
  | a :: b :: r, h => by
    obtain ⟨h1, h2⟩ := List.pairwise_cons.mp h
    show (ltD a b && risesB (b :: r)) = true
    rw [pw_rises h2, Bool.and_true]
    exact h1 b List.mem_cons_self
theorem pw_nodup {ds : List D} (h : ds.Pairwise (fun a b => dataLt a b = true)) : ds.Nodup := h.imp fun {a b} q e => by
  rw [e, lt_irrefl] at q
  cases q
theorem pw_same {l m : List D} (h1 : l.Pairwise (fun a b => dataLt a b = true)) (h2 : m.Pairwise (fun a b => dataLt a b = true)) (e : ∀ x, x ∈ l ↔ x ∈ m) : l = m :=
  sorted_same ((List.perm_ext_iff_of_nodup (pw_nodup h1) (pw_nodup h2)).mpr e) h1 h2 fun a _ b _ q r => by
    rw [lt_asymm q] at r
    cases r
structure SetOk (ds : List D) : Prop where
  few : ds.length < 64
  tup : ∀ d ∈ ds, tup1 d = true
  key : ∀ d ∈ ds, ∃ k, nkOf d = some k
  dep : ∀ d ∈ ds, d.depth ≤ 8
  al : ∀ d ∈ ds, ∀ d' ∈ ds, alike d d' = true
theorem tupKeys_some : ∀ {ds : List D}, (∀ d ∈ ds, tup1 d = true) → (∀ d ∈ ds, ∃ k, nkOf d = some k) → (∀ d ∈ ds, d.depth ≤ 8) → ∃ ks, tupKeys ds = some ks
  | [], _, _, _ => ⟨[], rfl⟩
  | d :: r, h1, h2, h3 => by
    obtain ⟨ks, e⟩ := tupKeys_some (fun x hx => h1 x (List.mem_cons_of_mem _ hx)) (fun x hx => h2 x (List.mem_cons_of_mem _ hx)) (fun x hx => h3 x (List.mem_cons_of_mem _ hx))
    obtain ⟨k, ek⟩ := h2 d List.mem_cons_self
    have t := h1 d List.mem_cons_self
    have dk : k.depth ≤ 8 := by
      rw [nk_depth, nk_data d k ek]
      exact h3 d List.mem_cons_self
    cases d with
    | tuple xs =>
      refine ⟨k :: ks, ?_⟩
      rw [tupKeys, ek, Option.bind_some, if_pos dk, e]
      rfl
    | _ => cases t
theorem dataOf_mem {ds : List D} {ks : List Nk} (h : tupKeys ds = some ks) (d : D) : d ∈ dataOf ks ↔ d ∈ ds := by
  have e := tupKeys_data h
  unfold dataOf
  rw [← e, List.mem_map, List.mem_map]
  constructor
  · rintro ⟨k, hk, rfl⟩
    exact ⟨k, mem_uniq.mp hk, rfl⟩
  · rintro ⟨k, hk, rfl⟩
    exact ⟨k, mem_uniq.mpr hk, rfl⟩
theorem dataOf_nodup (ks : List Nk) : (dataOf ks).Nodup := List.pairwise_map.mpr ((nodup_uniq ks).imp fun {a b} q e => q (data_inj e))
theorem uniq_len {α : Type} [DecidableEq α] : ∀ l : List α, (uniq l).length ≤ l.length
  | [] => Nat.le_refl _
  | x :: r => by
    rw [uniq, List.length_cons, List.length_cons]
    have := List.length_filter_le (fun y => decide (y ≠ x)) (uniq r)
    have := uniq_len r
    omega
theorem depthAll_le {ds : List D} (h : ∀ d ∈ ds, d.depth ≤ 8) : PyData.depthAll ds ≤ 8 := by
  induction ds with
  | nil => simp [PyData.depthAll]
  | cons x r ih =>
    rw [PyData.depthAll]
    have z1 := h x List.mem_cons_self
    have z2 := ih fun d hd => h d (List.mem_cons_of_mem _ hd)
    omega
theorem sortset_ok {c : D} {ds : List D} (hc : seqOf c = some ds) (h : SetOk ds) : ∃ out, fSortSet c = some out ∧ out.Pairwise (fun a b => dataLt a b = true) ∧ (∀ d, d ∈ out ↔ d ∈ ds) ∧ out.length ≤ ds.length := by
  obtain ⟨ks, e⟩ := tupKeys_some h.tup h.key h.dep
  have hm := dataOf_mem e
  have hl : (dataOf ks).length ≤ ds.length := by
    unfold dataOf
    rw [List.length_map, ← tupKeys_data e, List.length_map]
    exact uniq_len ks
  have few := h.few
  have hok : sortOk (dataOf ks) = true := by
    simp only [sortOk, Bool.and_eq_true]
    refine ⟨⟨⟨allAlike_iff.mpr fun d hd d' hd' => h.al d ((hm d).mp hd) d' ((hm d').mp hd'), ?_⟩, decide_eq_true (depthAll_le fun d hd => h.dep d ((hm d).mp hd))⟩, decide_eq_true (by omega)⟩
    unfold sortable
    rw [List.all_eq_true.mpr fun d hd => h.tup d ((hm d).mp hd)]
    rfl
  refine ⟨srt (dataOf ks), ?_, ?_, fun d => ((srt_perm _).mem_iff).trans (hm d), by rw [(srt_perm _).length_eq]; exact hl⟩
  · unfold fSortSet
    rw [hc, Option.bind_some, e, Option.bind_some, hok, decide_eq_true few]
    rfl
  · refine List.Pairwise.imp_of_mem (fun {a b} ha hb q => ?_) ((srt_le (dataOf ks)).and ((srt_perm (dataOf ks)).nodup_iff.mpr (dataOf_nodup ks)))
    have ha' := (hm a).mp ((srt_perm _).mem_iff.mp ha)
    have hb' := (hm b).mp ((srt_perm _).mem_iff.mp hb)
    cases z : dataLt a b with
    | true => rfl
    | false => exact absurd (lt_total (h.al a ha' b hb') z (by have := q.1; unfold leD at this; simpa using this)) q.2
theorem alikeAll_of : ∀ {xs ys : List D}, (∀ x ∈ xs, ∀ y ∈ ys, alike x y = true) → alikeAll xs ys = true
  | [], _, _ => by simp [alikeAll]
  | _ :: _, [], _ => by simp [alikeAll]
  | x :: xs, y :: ys, h => by
    rw [alikeAll, h x List.mem_cons_self y List.mem_cons_self, alikeAll_of fun a ha b hb => h a (List.mem_cons_of_mem _ ha) b (List.mem_cons_of_mem _ hb)]
    rfl
theorem sortset_eq {ds out : List D} (h : SetOk ds) (h1 : out.Pairwise (fun a b => dataLt a b = true)) (h2 : ∀ d, d ∈ out ↔ d ∈ ds) : PyData.eqv (.list ds) (.list out) = risesB ds := by
  rw [PyData.eqv]
  cases q : risesB ds with
  | true =>
    have e := pw_same (rises_pw q) h1 fun x => (h2 x).symm
    subst e
    exact W.eqvAll_refl_alike ds (alikeAll_of h.al)
  | false =>
    cases z : PyData.eqvAll ds out with
    | false => rfl
    | true =>
      have e := eqvs_alike ds out (alikeAll_of fun x hx y hy => h.al x hx y ((h2 y).mp hy)) z
      rw [e, pw_rises h1] at q
      cases q
theorem dEq_set {c : D} {ds : List D} {W n : Nat} (hc : seqOf c = some ds) (h : SetOk ds) (hf : ∀ d ∈ ds, fine W n d = true) (hn : n ≤ 60) : ∃ out, fSortSet c = some out ∧ dEq (.list ds) (.list out) = some (.bool (risesB ds)) ∧ dNe (.list ds) (.list out) = some (.bool (!risesB ds)) := by
  obtain ⟨out, h1, h2, h3, _⟩ := sortset_ok hc h
  have s1 := shaped_list hf hn
  have s2 : SeqAt.shaped (.list out) = true := shaped_list (fun d hd => hf d ((h3 d).mp hd)) hn
  refine ⟨out, h1, ?_, ?_⟩
  · unfold dEq
    rw [s1, s2, sortset_eq h h2 h3]
    rfl
  · unfold dNe
    rw [s1, s2, sortset_eq h h2 h3]
    rfl
/-! members, and tuples of them -/
theorem mem_key {mem : List D} (h : MemOk mem) {x : D} (hx : x ∈ mem) : ∃ k, nkOf x = some k := by
  rcases h.kind with k | k
  · obtain ⟨s, c, rfl, _⟩ := k x hx
    exact ⟨.tup [.text s, .text c], by simp [nkOf, nksOf]⟩
  · obtain ⟨s, c, rfl⟩ := k x hx
    exact ⟨.tup [.text s, .num c], by simp [nkOf, nksOf]⟩
theorem mems_key {mem : List D} (h : MemOk mem) : ∀ {xs : List D}, (∀ x ∈ xs, x ∈ mem) → ∃ ks, nksOf xs = some ks
  | [], _ => ⟨[], by simp [nksOf]⟩
  | x :: xs, hx => by
    obtain ⟨k, e⟩ := mem_key h (hx x List.mem_cons_self)
    obtain ⟨ks, e2⟩ := mems_key h fun y hy => hx y (List.mem_cons_of_mem _ hy)
    exact ⟨k :: ks, by rw [nksOf, e, Option.bind_some, e2]; rfl⟩
theorem set_mems {mem ds : List D} (h : MemOk mem) (hd : ∀ d ∈ ds, d ∈ mem) (hl : ds.length < 64) : SetOk ds where
  few := hl
  tup := fun d hx => by
    obtain ⟨s, b, rfl⟩ := mem_fst h (hd d hx)
    rfl
  key := fun d hx => mem_key h (hd d hx)
  dep := fun d hx => by
    rw [(mem_depth h (hd d hx)).1]
    omega
  al := fun d hx d' hx' => mem_alike h (hd d hx) (hd d' hx')
theorem set_tuples {mem ds : List D} (h : MemOk mem) (hd : ∀ d ∈ ds, ∃ xs, d = .tuple xs ∧ ∀ x ∈ xs, x ∈ mem) (hne : ∀ d ∈ ds, tup1 d = true) (hl : ds.length < 64) : SetOk ds where
  few := hl
  tup := hne
  key := fun d hx => by
    obtain ⟨xs, rfl, hm⟩ := hd d hx
    obtain ⟨ks, e⟩ := mems_key h hm
    exact ⟨.tup ks, by rw [nkOf, e]; rfl⟩
  dep := fun d hx => ((tuples_alike h hd) d hx d hx).2.1
  al := fun d hx d' hx' => ((tuples_alike h hd) d hx d' hx').2.2
/-! ### the law's own look at pairs -/
/-! ### .. and at keys -/
end PB

namespace PB
open PySem PySem.Spec PyProof.Rows L2

/-! ### the deck -/
def DOk (B : Nat) (ds : List D) : Prop := ∃ a b c : Int, ds = [.int a, .int b, .int c] ∧ 0 ≤ a ∧ 0 ≤ b ∧ b < 2147483579 ∧ 0 ≤ c ∧ c ≤ B
theorem DOk.mono {B C : Nat} {ds : List D} (h : DOk B ds) (hc : B ≤ C) : DOk C ds := by
  obtain ⟨a, b, c, h1, h2, h3, h4, h5, h6⟩ := h
  exact ⟨a, b, c, h1, h2, h3, h4, h5, by omega⟩
theorem ix3_0 : ixN 3 0 = some 0 := by decide
theorem ix3_2 : ixN 3 2 = some 2 := by decide
theorem at2 {x y d : D} {r : List D} : atI (x :: y :: d :: r) 2 = some d := by
  have : atI (x :: y :: d :: r) ((2 : Nat) : Int) = some d := atI_nat rfl
  exact this
theorem pick_ok {B : Nat} {ds0 : List D} {k : Int} (h : DOk B ds0) (hB : B ≤ 1000000000) (h0 : 0 < k) (h1 : k < 1073741824) :
    ∃ r ds1, f_law_pick ds0 [.int k] = some (.val (.int r), ds1) ∧ 0 ≤ r ∧ r < k ∧ DOk (B + 1) ds1 := by
  obtain ⟨a, b, c, rfl, ha, hb, hb2, hc, hc2⟩ := h
  by_cases hq : 1 < a
  · refine ⟨a % k, [.int (a / k), .int b, .int c], ?_, Int.emod_nonneg a (by omega), Int.emod_lt_of_pos a h0, a / k, b, c, rfl, Int.ediv_nonneg ha (by omega), hb, hb2, hc, by omega⟩
    simp [f_law_pick, M_law_pick, runK, startK, mIxOwn, sSetOwn, hq, dMod, dFdiv, iOp, h0, h1, bName, isPar, ix3_0]
  · have p1 : (b + 15485867 * (c + 1)).natAbs < 18446744073709551616 := by omega
    have n1 : 0 ≤ (b + 15485867 * (c + 1)) ^ 5 % 2147483647 := Int.emod_nonneg _ (by decide)
    have n2 : (b + 15485867 * (c + 1)) ^ 5 % 2147483647 < 2147483647 := Int.emod_lt_of_pos _ (by decide)
    have p2 : ((b + 15485867 * (c + 1)) ^ 5 % 2147483647 + 7919 * (c + 1)).natAbs < 18446744073709551616 := by omega
    refine ⟨((b + 15485867 * (c + 1)) ^ 5 % 2147483647 + 7919 * (c + 1)) ^ 3 % 2147483629 / 32 % k, [.int a, .int b, .int (c + 1)], ?_, Int.emod_nonneg _ (by omega), Int.emod_lt_of_pos _ h0, a, b, c + 1, rfl, ha, hb, hb2, by omega, by omega⟩
    simp [f_law_pick, M_law_pick, runK, startK, mIxOwn, sSetOwn, hq, dMod, dFdiv, dMul, dPow, iOp, h0, bName, isPar, ix3_2, at2, p1, p2]
theorem deck_ok (z : Int) : ∃ ds, f_law_deck [.int z, .int 3] = some (.new ds) ∧ DOk 3 ds := by
  have n1 : 0 ≤ z % 2147483579 := Int.emod_nonneg _ (by decide)
  have n2 : z % 2147483579 < 2147483579 := Int.emod_lt_of_pos _ (by decide)
  by_cases h : (1000000000000000000 : Int) ≤ z
  · refine ⟨[.int (z - 1000000000000000000), .int (z % 2147483579), .int 3], ?_, _, _, _, rfl, by omega, n1, n2, by omega, by omega⟩
    simp [f_law_deck, M_law_deck, runP_def, startE, dPow, dMod, iOp, h, szOk]
  · refine ⟨[.int 0, .int (z % 2147483579), .int 3], ?_, _, _, _, rfl, by omega, n1, n2, by omega, by omega⟩
    simp [f_law_deck, M_law_deck, runP_def, startE, dPow, dMod, iOp, h, szOk]
/-- a pick within an expression -/
theorem en_pick {e : Sg} (i : Nat) {b0 : Bool} {dd : List D} {m : ML} {P : D → Sg → Prop} {B : Nat} {k : Int} (h0 : e[i]? = some (some (.own b0 dd))) (hd : DOk B dd) (hB : B ≤ 1000000000) (hk0 : 0 < k) (hk1 : k < 1073741824) (hm : m e = some ([.int k], e))
    (h : ∀ (r : Int) (ds1 : List D), 0 ≤ r → r < k → DOk (B + 1) ds1 → P (.int r) (e.set i (some (.own b0 ds1)))) : Ens (mCallK i 2 f_law_pick m) e P := by
  obtain ⟨r, ds1, q1, q2, q3, q4⟩ := pick_ok hd hB hk0 hk1
  exact en_CallK i h0 ⟨[.int k], e, hm, rfl, b0, dd, _, ds1, h0, q1, h r ds1 q2 q3 q4⟩
theorem one_ok {B : Nat} {ds0 xs : List D} (h : DOk B ds0) (hB : B ≤ 1000000000) (h0 : 0 < xs.length) (h1 : xs.length ≤ 1000) : ∃ d ds1, f_law_one ds0 [.list xs] = some (.val d, ds1) ∧ d ∈ xs ∧ DOk (B + 1) ds1 := by
  have := runK_ens (n := 2) (M := M_law_one) (ds0 := ds0) (ds := [.list xs]) (R := fun r ds1 => ∃ d, r = .val d ∧ d ∈ xs ∧ DOk (B + 1) ds1) ?_
  · obtain ⟨r, ds1, q1, d, rfl, q2, q3⟩ := this
    exact ⟨d, ds1, q1, q2, q3⟩
  · unfold M_law_one
    refine es_Ret (en_Bin (en_Var (d := .list xs) 1 rfl (en_pick 0 (dd := ds0) rfl h hB (k := xs.length) (by omega) (by omega) (by simp [startK]) fun r ds1 r0 r1 hd => ?_)))
    obtain ⟨j, hj⟩ : ∃ j : Nat, r = j := ⟨r.toNat, by omega⟩
    subst hj
    have hj : j < xs.length := by omega
    refine ⟨xs[j], atI_nat (List.getElem?_eq_getElem hj), ds1, rfl, _, rfl, xs[j], rfl, List.getElem_mem _, hd⟩
theorem fine_mono {W V : Nat} (hW : W ≤ V) : ∀ {n m : Nat} {d : D}, n ≤ m → fine W n d = true → fine V m d = true := by
  intro n
  induction n with
  | zero =>
    intro m d hm h
    cases d <;> first | (cases m <;> rfl) | (cases h; done) | skip
    · cases m <;> (simp [fine] at h ⊢; omega)
    · cases m <;> simpa [fine] using h
  | succ n ih =>
    intro m d hm h
    obtain ⟨k, rfl⟩ : ∃ k, m = k + 1 := ⟨m - 1, by omega⟩
    cases d with
    | none => rfl
    | bool b => rfl
    | int i =>
      simp [fine] at h ⊢
      omega
    | str s => simpa [fine] using h
    | list ds =>
      simp only [fine, Bool.and_eq_true, decide_eq_true_eq, List.all_eq_true] at h ⊢
      exact ⟨by omega, fun x hx => ih (by omega) (h.2 x hx)⟩
    | tuple ds =>
      simp only [fine, Bool.and_eq_true, decide_eq_true_eq, List.all_eq_true] at h ⊢
      exact ⟨by omega, fun x hx => ih (by omega) (h.2 x hx)⟩
    | dict k => cases h
theorem odd_ok {B : Nat} {ds0 : List D} (h : DOk B ds0) (hB : B ≤ 1000000000) : ∃ d ds1, f_law_odd ds0 [] = some (.val d, ds1) ∧ fine 9 6 d = true ∧ DOk (B + 1) ds1 := by
  have := runK_ens (n := 2) (M := M_law_odd) (ds0 := ds0) (ds := []) (R := fun r ds1 => ∃ d, r = .val d ∧ fine 9 6 d = true ∧ DOk (B + 1) ds1) ?_
  · obtain ⟨r, ds1, q1, d, rfl, q2, q3⟩ := this
    exact ⟨d, ds1, q1, q2, q3⟩
  · unfold M_law_odd
    have ev : (mNew (mSz (mCons (mC .none) (mCons (mC (.bool true)) (mCons (mC (.str "")) (mCons (mC (.str "a")) (mCons (mTup mNil) (mCons (mNew (mSz mNil)) (mCons (mTup (mCons (mTup mNil) mNil)) (mCons (mC (.int 7)) (mCons (mUn dNeg (mC (.int 1))) (mCons (mTup (mCons (mC (.str "zz")) (mCons (mC (.str "a")) mNil))) (mCons (mTup (mCons (mC (.str "zz")) (mCons (mC (.int 1)) mNil))) (mCons (mBin dPow (mC (.int 10)) (mC (.int 30))) (mCons (mTup (mCons (mC (.str "ann")) (mCons (mC (.bool true)) mNil))) (mCons (mTup (mCons (mC (.int 1)) (mCons (mC (.int 2)) mNil))) (mCons (mC (.str "A")) mNil))))))))))))))))) (startK 2 ds0 []) =
      some (.list [.none, .bool true, .str "", .str "a", .tuple [], .list [], .tuple [.tuple []], .int 7, .int (-1), .tuple [.str "zz", .str "a"], .tuple [.str "zz", .int 1], .int (10 ^ 30), .tuple [.str "ann", .bool true], .tuple [.int 1, .int 2], .str "A"], startK 2 ds0 []) := by
      simp [szOk, dPow, iOp]
    refine es_Seq (es_Asg ⟨_, _, ev, _, rfl, ?_⟩)
    refine es_Ret (en_CallK 0 (dd := ds0) (b0 := true) rfl ?_)
    refine en_Cons (en_Var 1 rfl (en_Nil ⟨rfl, true, ds0, ?_⟩))
    obtain ⟨d, ds1, q1, q2, q3⟩ := one_ok h hB (xs := [.none, .bool true, .str "", .str "a", .tuple [], .list [], .tuple [.tuple []], .int 7, .int (-1), .tuple [.str "zz", .str "a"], .tuple [.str "zz", .int 1], .int (10 ^ 30), .tuple [.str "ann", .bool true], .tuple [.int 1, .int 2], .str "A"]) (by decide) (by decide)
    refine ⟨_, ds1, rfl, q1, ds1, rfl, _, rfl, d, rfl, ?_, q3⟩
    have all : ([.none, .bool true, .str "", .str "a", .tuple [], .list [], .tuple [.tuple []], .int 7, .int (-1), .tuple [.str "zz", .str "a"], .tuple [.str "zz", .int 1], .int (10 ^ 30), .tuple [.str "ann", .bool true], .tuple [.int 1, .int 2], .str "A"] : List D).all (fine 9 6) = true := by decide +kernel
    exact List.all_eq_true.mp all d q2
theorem worth_ok {B : Nat} {ds0 : List D} (h : DOk B ds0) (hB : B ≤ 999999000) : ∃ d ds1, f_law_worth ds0 [] = some (.val d, ds1) ∧ (fine 1 0 d = true ∧ worthN d = true) ∧ DOk (B + 2) ds1 := by
  have := runK_ens (n := 1) (M := M_law_worth) (ds0 := ds0) (ds := []) (R := fun r ds1 => ∃ d, r = .val d ∧ (fine 1 0 d = true ∧ worthN d = true) ∧ DOk (B + 2) ds1) ?_
  · obtain ⟨r, ds1, q1, d, rfl, q2, q3⟩ := this
    exact ⟨d, ds1, q1, q2, q3⟩
  · unfold M_law_worth
    refine es_Ret (en_CallK 0 (dd := ds0) (b0 := true) rfl ?_)
    refine en_Cons (en_New (en_Sz (en_Cons (en_C (en_Cons (en_C (en_Cons (en_C (en_Cons (en_C (en_Cons (en_C (en_Cons (en_C (en_Cons (en_C (en_Cons (en_C (en_Cons (en_Bin (en_pick 0 (dd := ds0) rfl h (by omega) (k := 2001) (by decide) (by decide) (by simp) fun r ds1 r0 r1 hd => ?_)))))))))))))))))))))
    refine en_C ⟨.int (r - 1000), rfl, en_Nil ⟨by simp, en_Nil ⟨rfl, true, ds1, ?_⟩⟩⟩
    obtain ⟨d, ds2, q1, q2, q3⟩ := one_ok hd (by omega) (xs := [.none, .int 1, .int 2, .int 3, .int 1, .int 2, .str "red", .str "blue", .int (r - 1000)]) (by simp) (by simp)
    refine ⟨_, ds2, rfl, q1, ds2, rfl, _, rfl, d, rfl, ?_, q3⟩
    simp only [List.mem_cons, List.not_mem_nil, or_false] at q2
    have big : (r - 1000).natAbs ≤ 10 ^ 31 + 1 := Nat.le_trans (show (r - 1000).natAbs ≤ 2000 by omega) (by decide)
    have big2 : worthN (.int (r - 1000)) = true := by
      show (false || (decide (-1000000 ≤ r - 1000) && decide (r - 1000 ≤ 1000000))) = true
      rw [Bool.false_or, Bool.and_eq_true, decide_eq_true_eq, decide_eq_true_eq]
      omega
    rcases q2 with rfl | rfl | rfl | rfl | rfl | rfl | rfl | rfl | rfl
    · decide +kernel
    · decide +kernel
    · decide +kernel
    · decide +kernel
    · decide +kernel
    · decide +kernel
    · decide +kernel
    · decide +kernel
    · exact ⟨decide_eq_true big, big2⟩
end PB

namespace PB
open PySem PySem.Spec PyProof.Rows L2

theorem strOk_of (s : String) : PyData.strOk (Str.ofString s) = true := by
  unfold PyData.strOk
  rw [PySem.Str.ofString_eq_toList]
  simp only [Array.all_eq_true_iff_forall_mem, List.mem_toArray, List.mem_map]
  rintro c ⟨ch, _, rfl⟩
  refine decide_eq_true ?_
  have := ch.valid
  unfold UInt32.isValidChar Nat.isValidChar at this
  have e : ch.toNat = ch.val.toNat := rfl
  rw [e]
  omega
theorem fine_strE {W n : Nat} {s : Str} : fine W n (.str s) = (decide (s.length ≤ 2000) && PyData.strOk s) := by cases n <;> rfl
theorem fine_text {W n : Nat} {i : Int} (h : i.natAbs.log2 < 1920) : fine W n (.str (toString i)) = true := by
  have h1 := PyProof.Rows.int_text_len_1921 h
  have h2 : PyData.strOk (Str.ofString (toString i)) = true := strOk_of _
  rw [fine_strE, h2, decide_eq_true (show (Str.ofString (toString i)).length ≤ 2000 by omega)]
  rfl
theorem log_small {i : Int} {W : Nat} (h : i.natAbs ≤ 10 ^ 31 + W) (hW : W ≤ 1000) : i.natAbs.log2 < 1920 := by
  by_cases h0 : i.natAbs = 0
  · rw [h0]
    decide
  · rw [Nat.log2_lt h0]
    exact Nat.lt_of_le_of_lt h (Nat.lt_of_le_of_lt (Nat.add_le_add_left hW _) (by decide +kernel))
/-- one of a written list, at a place that is picked -/
theorem at_some {xs : List D} {r : Int} (h0 : 0 ≤ r) (h1 : r < xs.length) : ∃ d, atI xs r = some d ∧ d ∈ xs := by
  obtain ⟨j, hj⟩ : ∃ j : Nat, r = j := ⟨r.toNat, by omega⟩
  subst hj
  have hj : j < xs.length := by omega
  exact ⟨xs[j], atI_nat (List.getElem?_eq_getElem hj), List.getElem_mem _⟩
theorem ix_some {n : Nat} {r : Int} (h0 : 0 ≤ r) (h1 : r < n) : ixN n r = some r.toNat := by
  unfold ixN
  rw [if_pos h0, if_pos h1]
def SpOk (n : Nat) (fr : Fk) : Prop := ∀ (W B : Nat) (ds0 : List D) (d : D), DOk B ds0 → B ≤ 900000000 → W ≤ 900 → fine W n d = true → ∃ d' ds1, fr ds0 [d] = some (.val d', ds1) ∧ fine (W + 1) n d' = true ∧ DOk (B + 2 * n + 2) ds1
/-- a list or a tuple of these -/
def seqD (tup : Bool) (ds : List D) : D := if tup = true then .tuple ds else .list ds
theorem fine_seq {W n : Nat} {tup : Bool} {ds : List D} : fine W (n + 1) (seqD tup ds) = (decide (ds.length ≤ W) && ds.all (fine W n)) := by
  cases tup <;> rfl
theorem set_mem {ds : List D} {j : Nat} {x d : D} (h : d ∈ ds.set j x) : d ∈ ds ∨ d = x := List.mem_or_eq_of_mem_set h
theorem spoilt_leaf {B n : Nat} {ds0 : List D} {d : D} {fr : Fk} {W : Nat} (h : DOk B ds0) (hB : B ≤ 900000000) (hW : W ≤ 900) (hd : fine W n d = true) (hs : isTup d = false) (hl : isLst d = false) :
    ∃ d' ds1, runK 5 (M_law_spoilt fr) ds0 [d] = some (.val d', ds1) ∧ fine (W + 1) n d' = true ∧ DOk (B + 2) ds1 := by
  have := runK_ens (n := 5) (M := M_law_spoilt fr) (ds0 := ds0) (ds := [d]) (R := fun r ds1 => ∃ d', r = .val d' ∧ fine (W + 1) n d' = true ∧ DOk (B + 2) ds1) ?_
  · obtain ⟨r, ds1, q1, d', rfl, q2, q3⟩ := this
    exact ⟨d', ds1, q1, q2, q3⟩
  · have hnd := fine_noDict hd
    have t2 : mTru (mIsi2 "tuple" "list" (mVar 1)) (startK 5 ds0 [d]) = some (false, startK 5 ds0 [d]) := by
      cases d <;> first | (cases hs; done) | (cases hl; done) | (cases hnd; done) | simp [startK, kitB2]
    unfold M_law_spoilt
    refine es_Seq (es_If (en_AndT ⟨false, _, t2, ?_⟩))
    refine es_Skip (es_Seq (es_If ⟨false, _, t2, es_Skip ?_⟩))
    cases d with
    | tuple x => cases hs
    | list x => cases hl
    | dict x => cases hnd
    | int i =>
      have hi : i.natAbs ≤ 10 ^ 31 + W := by
        cases n <;> simpa [fine] using hd
      have lg := log_small hi (by omega)
      refine es_Seq (es_If ⟨true, startK 5 ds0 [.int i], by simp [startK], ?_⟩)
      have ev : (mNew (mSz (mCons (mBin dAdd (mVar 1) (mC (.int 1))) (mCons (mBin dSub (mVar 1) (mC (.int 1))) (mCons (mC (.bool true)) (mCons (mC .none) (mCons (mC (.int 1000)) (mCons (mBin dAdd (mBin dPow (mC (.int 10)) (mC (.int 6))) (mC (.int 1))) (mCons (mCB fStr (mCons (mVar 1) mNil)) mNil))))))))) (startK 5 ds0 [.int i]) = some (.list [.int (i + 1), .int (i - 1), .bool true, .none, .int 1000, .int 1000001, .str (toString i)], startK 5 ds0 [.int i]) := by
        simp [startK, szOk, dPow, iOp, fStr, lg]
      refine es_Ret (en_Bin ⟨_, _, ev, en_pick 0 (dd := ds0) (b0 := true) rfl h (by omega) (k := 7) (by decide) (by decide) rfl fun r ds1 r0 r1 hd1 => ?_⟩)
      obtain ⟨z, hz, hm⟩ := at_some (xs := [.int (i + 1), .int (i - 1), .bool true, .none, .int 1000, .int 1000001, .str (toString i)]) r0 (by simpa using r1)
      refine ⟨z, hz, ds1, rfl, _, rfl, z, rfl, ?_, hd1.mono (by omega)⟩
      have b1 : (i + 1).natAbs ≤ 10 ^ 31 + (W + 1) := by omega
      have b2 : (i - 1).natAbs ≤ 10 ^ 31 + (W + 1) := by omega
      simp only [List.mem_cons, List.not_mem_nil, or_false] at hm
      rcases hm with rfl | rfl | rfl | rfl | rfl | rfl | rfl
      · cases n <;> exact decide_eq_true b1
      · cases n <;> exact decide_eq_true b2
      · cases n <;> rfl
      · cases n <;> rfl
      · cases n <;> (simp [fine] <;> omega)
      · cases n <;> (simp [fine] <;> omega)
      · exact fine_text lg
    | bool k =>
      refine es_Seq (es_If ⟨true, startK 5 ds0 [.bool k], by simp [startK], ?_⟩)
      have ev : (mNew (mSz (mCons (mBin dAdd (mVar 1) (mC (.int 1))) (mCons (mBin dSub (mVar 1) (mC (.int 1))) (mCons (mC (.bool true)) (mCons (mC .none) (mCons (mC (.int 1000)) (mCons (mBin dAdd (mBin dPow (mC (.int 10)) (mC (.int 6))) (mC (.int 1))) (mCons (mCB fStr (mCons (mVar 1) mNil)) mNil))))))))) (startK 5 ds0 [.bool k]) = some (.list [.int (b01 k + 1), .int (b01 k - 1), .bool true, .none, .int 1000, .int 1000001, .str (if k then "True" else "False")], startK 5 ds0 [.bool k]) := by
        simp [startK, szOk, dPow, iOp, fStr, dAdd, dSub]
      refine es_Ret (en_Bin ⟨_, _, ev, en_pick 0 (dd := ds0) (b0 := true) rfl h (by omega) (k := 7) (by decide) (by decide) rfl fun r ds1 r0 r1 hd1 => ?_⟩)
      obtain ⟨z, hz, hm⟩ := at_some (xs := [.int (b01 k + 1), .int (b01 k - 1), .bool true, .none, .int 1000, .int 1000001, .str (if k then "True" else "False")]) r0 (by simpa using r1)
      refine ⟨z, hz, ds1, rfl, _, rfl, z, rfl, ?_, hd1.mono (by omega)⟩
      simp only [List.mem_cons, List.not_mem_nil, or_false] at hm
      have fs : ∀ (s : String), (Str.ofString s).length ≤ 2000 → fine (W + 1) n (.str (Str.ofString s)) = true := by
        intro s hs
        have := strOk_of s
        cases n <;> simp [fine, hs, this]
      rcases hm with rfl | rfl | rfl | rfl | rfl | rfl | rfl
      · cases k <;> cases n <;> (simp [fine, b01] <;> omega)
      · cases k <;> cases n <;> (simp [fine, b01] <;> omega)
      · cases n <;> rfl
      · cases n <;> rfl
      · cases n <;> (simp [fine] <;> omega)
      · cases n <;> (simp [fine] <;> omega)
      · cases k
        · exact fs _ (by decide +kernel)
        · exact fs _ (by decide +kernel)
    | none =>
      refine es_Seq (es_If ⟨false, startK 5 ds0 [.none], by simp [startK], es_Skip ?_⟩)
      have ev : (mNew (mSz (mCons (mC .none) (mCons (mC (.int 7)) (mCons (mC (.str "n")) (mCons (mC (.str "")) (mCons (mC (.str "A")) (mCons (mC (.str "abcdefghi")) (mCons (mC (.str "first")) (mCons (mC (.str "is")) mNil)))))))))) (startK 5 ds0 [.none]) = some (.list [.none, .int 7, .str "n", .str "", .str "A", .str "abcdefghi", .str "first", .str "is"], startK 5 ds0 [.none]) := by
        simp [szOk]
      refine es_Ret (en_Bin ⟨_, _, ev, en_pick 0 (dd := ds0) (b0 := true) rfl h (by omega) (k := 8) (by decide) (by decide) rfl fun r ds1 r0 r1 hd1 => ?_⟩)
      obtain ⟨z, hz, hm⟩ := at_some (xs := [.none, .int 7, .str "n", .str "", .str "A", .str "abcdefghi", .str "first", .str "is"]) r0 (by simpa using r1)
      refine ⟨z, hz, ds1, rfl, _, rfl, z, rfl, ?_, hd1.mono (by omega)⟩
      have all : ([.none, .int 7, .str "n", .str "", .str "A", .str "abcdefghi", .str "first", .str "is"] : List D).all (fine 0 0) = true := by decide +kernel
      exact fine_mono (by omega) (by omega) (List.all_eq_true.mp all z hm)
    | str s =>
      refine es_Seq (es_If ⟨false, startK 5 ds0 [.str s], by simp [startK], es_Skip ?_⟩)
      have ev : (mNew (mSz (mCons (mC .none) (mCons (mC (.int 7)) (mCons (mC (.str "n")) (mCons (mC (.str "")) (mCons (mC (.str "A")) (mCons (mC (.str "abcdefghi")) (mCons (mC (.str "first")) (mCons (mC (.str "is")) mNil)))))))))) (startK 5 ds0 [.str s]) = some (.list [.none, .int 7, .str "n", .str "", .str "A", .str "abcdefghi", .str "first", .str "is"], startK 5 ds0 [.str s]) := by
        simp [szOk]
      refine es_Ret (en_Bin ⟨_, _, ev, en_pick 0 (dd := ds0) (b0 := true) rfl h (by omega) (k := 8) (by decide) (by decide) rfl fun r ds1 r0 r1 hd1 => ?_⟩)
      obtain ⟨z, hz, hm⟩ := at_some (xs := [.none, .int 7, .str "n", .str "", .str "A", .str "abcdefghi", .str "first", .str "is"]) r0 (by simpa using r1)
      refine ⟨z, hz, ds1, rfl, _, rfl, z, rfl, ?_, hd1.mono (by omega)⟩
      have all : ([.none, .int 7, .str "n", .str "", .str "A", .str "abcdefghi", .str "first", .str "is"] : List D).all (fine 0 0) = true := by decide +kernel
      exact fine_mono (by omega) (by omega) (List.all_eq_true.mp all z hm)
end PB

namespace PB
open PySem PySem.Spec PyProof.Rows L2

section
variable {tup : Bool} {ds : List D} {e : Sg}
theorem sq_isi2 (h : e[1]? = some (some (.val (seqD tup ds)))) : mTru (mIsi2 "tuple" "list" (mVar 1)) e = some (true, e) := by
  cases tup <;> simp [ev_Var h, seqD, kitB2]
theorem sq_isiT (h : e[1]? = some (some (.val (seqD tup ds)))) : mTru (mIsi "tuple" (mVar 1)) e = some (tup, e) := by
  cases tup <;> simp [ev_Var h, seqD]
theorem sq_len (h : e[1]? = some (some (.val (seqD tup ds)))) : mCB fLen (mCons (mVar 1) mNil) e = some (.int ds.length, e) := by
  cases tup <;> simp [ev_Var h, seqD]
theorem sq_list (h : e[1]? = some (some (.val (seqD tup ds)))) : mListOf (mVar 1) e = some (ds, e) := by
  cases tup <;> simp [ev_Var h, seqD]
theorem sq_tuple (h : e[1]? = some (some (.val (seqD tup ds)))) : mCB fTuple (mCons (mVar 1) mNil) e = some (.tuple ds, e) := by
  cases tup <;> simp [ev_Var h, seqD]
theorem cutD_to1 (ds : List D) : cutD ds none (some 1) = ds.take 1 := by
  unfold cutD
  rw [show HT.sIx ds.length ds.length (some 1) = min 1 ds.length from HT.sIx_nat ds.length ds.length 1, HT.sIx_none]
  cases ds with
  | nil => rfl
  | cons x r =>
    rw [show min 1 (x :: r).length = 1 by rw [List.length_cons]; omega]
    rfl
theorem sq_more (h : e[1]? = some (some (.val (seqD tup ds)))) (hl : ds.length ≤ 1000) : mBin dAdd (mVar 1) (mSl (mVar 1) mNoPart (mPart (mC (.int 1)))) e = some (seqD tup (ds ++ ds.take 1), e) := by
  have hz : szOk (ds.length + min 1 ds.length) = true := decide_eq_true (by omega)
  cases tup <;> simp [ev_Var h, seqD, dSl, cutD_to1, dAdd, hz]
theorem sq_tail (h : e[1]? = some (some (.val (seqD tup ds)))) : mSl (mVar 1) (mPart (mC (.int 1))) mNoPart e = some (seqD tup (ds.drop 1), e) := by
  cases tup <;> simp [ev_Var h, seqD, dSl, cutD1]
theorem sq_rev (h : e[1]? = some (some (.val (seqD tup ds)))) : mUn dRev (mVar 1) e = some (seqD tup ds.reverse, e) := by
  cases tup <;> simp [ev_Var h, seqD, dRev]
end
theorem fine_sq {W n : Nat} {tup : Bool} {ds : List D} (h1 : ds.length ≤ W) (h2 : ∀ d ∈ ds, fine W n d = true) : fine W (n + 1) (seqD tup ds) = true := by
  rw [fine_seq, decide_eq_true h1, Bool.true_and, List.all_eq_true]
  exact h2
theorem spoilt_seq {B n W : Nat} {ds0 ds : List D} {tup : Bool} {fr : Fk} (h : DOk B ds0) (hB : B ≤ 900000000 - 2 * (n + 1)) (hW : W ≤ 900) (hd : fine W (n + 1) (seqD tup ds) = true) (hn : n ≤ 50)
    (hr : ∀ (W B : Nat) (ds0 : List D) (d : D), DOk B ds0 → B ≤ 900000000 - 2 * n → W ≤ 900 → fine W n d = true → ∃ d' ds1, fr ds0 [d] = some (.val d', ds1) ∧ fine (W + 1) n d' = true ∧ DOk (B + 2 * n + 2) ds1) :
    ∃ d' ds1, runK 5 (M_law_spoilt fr) ds0 [seqD tup ds] = some (.val d', ds1) ∧ fine (W + 1) (n + 1) d' = true ∧ DOk (B + 2 * (n + 1) + 2) ds1 := by
  have hh := hd
  rw [fine_seq, Bool.and_eq_true, decide_eq_true_eq, List.all_eq_true] at hh
  obtain ⟨hlen, hall⟩ := hh
  have := runK_ens (n := 5) (M := M_law_spoilt fr) (ds0 := ds0) (ds := [seqD tup ds]) (R := fun r ds1 => ∃ d', r = .val d' ∧ fine (W + 1) (n + 1) d' = true ∧ DOk (B + 2 * (n + 1) + 2) ds1) ?_
  · obtain ⟨r, ds1, q1, d', rfl, q2, q3⟩ := this
    exact ⟨d', ds1, q1, q2, q3⟩
  · unfold M_law_spoilt
    have up : ∀ d ∈ ds, fine (W + 1) n d = true := fun d hd => fine_mono (by omega) (Nat.le_refl _) (hall d hd)
    -- the second part, whatever the deck is
    have part2 : ∀ (dd : List D) (C : Nat), DOk C dd → C ≤ B + 1 → Ens (sSeq (sIf (mTru (mIsi2 "tuple" "list" (mVar 1))) (sSeq (sAsg (mIfE (mTru (mIsi "tuple" (mVar 1))) (mNew (mListOf (mVar 1))) (mCB fTuple (mCons (mVar 1) mNil))) (bName 4))
        (sRet (mBin dIx (mNew (mSz (mCons (mVar 4) (mCons (mBin dAdd (mVar 1) (mSl (mVar 1) mNoPart (mPart (mC (.int 1))))) (mCons (mSl (mVar 1) (mPart (mC (.int 1))) mNoPart) (mCons (mUn dRev (mVar 1)) (mCons (mC .none) mNil))))))) (mCallK 0 2 f_law_pick (mCons (mC (.int 5)) mNil))))) sSkip)
        (sSeq (sIf (mTru (mIsi "int" (mVar 1))) (sRet (mBin dIx (mNew (mSz (mCons (mBin dAdd (mVar 1) (mC (.int 1))) (mCons (mBin dSub (mVar 1) (mC (.int 1))) (mCons (mC (.bool true)) (mCons (mC .none) (mCons (mC (.int 1000)) (mCons (mBin dAdd (mBin dPow (mC (.int 10)) (mC (.int 6))) (mC (.int 1))) (mCons (mCB fStr (mCons (mVar 1) mNil)) mNil))))))))) (mCallK 0 2 f_law_pick (mCons (mC (.int 7)) mNil)))) sSkip)
        (sRet (mBin dIx (mNew (mSz (mCons (mC .none) (mCons (mC (.int 7)) (mCons (mC (.str "n")) (mCons (mC (.str "")) (mCons (mC (.str "A")) (mCons (mC (.str "abcdefghi")) (mCons (mC (.str "first")) (mCons (mC (.str "is")) mNil)))))))))) (mCallK 0 2 f_law_pick (mCons (mC (.int 8)) mNil)))))) [some (.own true dd), some (.val (seqD tup ds)), none, none, none]
        (fun o e => ∃ ds1, e[0]? = some (some (.own true ds1)) ∧ ∃ r, o = .ret r ∧ ∃ d', r = .val d' ∧ fine (W + 1) (n + 1) d' = true ∧ DOk (B + 2 * (n + 1) + 2) ds1) := by
      intro dd C hC hCB
      refine es_Seq (es_If ⟨true, _, sq_isi2 rfl, ?_⟩)
      refine es_Seq (es_Asg (a := mIfE (mTru (mIsi "tuple" (mVar 1))) (mNew (mListOf (mVar 1))) (mCB fTuple (mCons (mVar 1) mNil))) ⟨seqD (!tup) ds, [some (.own true dd), some (.val (seqD tup ds)), none, none, none], ?_, _, rfl, ?_⟩)
      · have e1 := sq_isiT (tup := tup) (ds := ds) (e := [some (.own true dd), some (.val (seqD tup ds)), none, none, none]) rfl
        have e2 := sq_list (tup := tup) (ds := ds) (e := [some (.own true dd), some (.val (seqD tup ds)), none, none, none]) rfl
        have e3 := sq_tuple (tup := tup) (ds := ds) (e := [some (.own true dd), some (.val (seqD tup ds)), none, none, none]) rfl
        rw [ev_IfE, e1]
        cases tup with
        | true =>
          simp only [Option.bind_some, if_true]
          rw [ev_New, e2]
          rfl
        | false =>
          simp only [Option.bind_some]
          rw [if_neg Bool.false_ne_true, e3]
          rfl
      · have E : ([some (.own true dd), some (.val (seqD tup ds)), none, none, some (.val (seqD (!tup) ds))] : Sg)[1]? = some (some (.val (seqD tup ds))) := rfl
        have ev : (mNew (mSz (mCons (mVar 4) (mCons (mBin dAdd (mVar 1) (mSl (mVar 1) mNoPart (mPart (mC (.int 1))))) (mCons (mSl (mVar 1) (mPart (mC (.int 1))) mNoPart) (mCons (mUn dRev (mVar 1)) (mCons (mC .none) mNil))))))) [some (.own true dd), some (.val (seqD tup ds)), none, none, some (.val (seqD (!tup) ds))] =
            some (.list [seqD (!tup) ds, seqD tup (ds ++ ds.take 1), seqD tup (ds.drop 1), seqD tup ds.reverse, .none], [some (.own true dd), some (.val (seqD tup ds)), none, none, some (.val (seqD (!tup) ds))]) := by
          simp only [ev_New, ev_Sz, ev_Cons, sq_more E (show ds.length ≤ 1000 by omega), sq_tail E, sq_rev E, ev_Var4, ev_C, ev_Nil, Option.bind_some, Option.map_some]
          rfl
        refine es_Ret (en_Bin ⟨_, _, ev, en_pick 0 (dd := dd) (b0 := true) rfl hC (by omega) (k := 5) (by decide) (by decide) rfl fun r ds1 r0 r1 hd1 => ?_⟩)
        obtain ⟨z, hz, hm⟩ := at_some (xs := [seqD (!tup) ds, seqD tup (ds ++ ds.take 1), seqD tup (ds.drop 1), seqD tup ds.reverse, .none]) r0 (by simpa using r1)
        refine ⟨z, hz, ds1, rfl, _, rfl, z, rfl, ?_, hd1.mono (by omega)⟩
        simp only [List.mem_cons, List.not_mem_nil, or_false] at hm
        rcases hm with rfl | rfl | rfl | rfl | rfl
        · exact fine_sq (by omega) up
        · refine fine_sq ?_ fun d hd => ?_
          · rw [List.length_append, List.length_take]
            omega
          · rcases List.mem_append.mp hd with q | q
            · exact up d q
            · exact up d (List.mem_of_mem_take q)
        · refine fine_sq ?_ fun d hd => up d (List.mem_of_mem_drop hd)
          rw [List.length_drop]
          omega
        · refine fine_sq ?_ fun d hd => up d (List.mem_reverse.mp hd)
          rw [List.length_reverse]
          omega
        · rfl
    refine es_Seq (es_If (en_AndT ⟨true, _, sq_isi2 rfl, ?_⟩))
    refine en_AndT (en_B (en_Bin ⟨_, _, sq_len rfl, en_C ⟨.bool (decide ((0 : Int) < ds.length)), rfl, decide ((0 : Int) < ds.length), rfl, ?_⟩⟩))
    by_cases hne : (0 : Int) < ds.length
    · rw [decide_eq_true hne]
      refine en_B (en_Bin (en_pick 0 (dd := ds0) (b0 := true) rfl h (by omega) (k := 5) (by decide) (by decide) rfl fun r ds1 r0 r1 hd1 => en_C ⟨.bool (decide ((0 : Int) < r)), rfl, decide ((0 : Int) < r), rfl, ?_⟩))
      by_cases hr0 : (0 : Int) < r
      · rw [decide_eq_true hr0]
        show Ens (sSeq _ _) [some (.own true ds1), some (.val (seqD tup ds)), none, none, none] _
        refine es_Seq (es_Own 2 ⟨ds, _, sq_list rfl, by simp, rfl, ?_⟩)
        show Ens (sSeq _ _) [some (.own true ds1), some (.val (seqD tup ds)), some (.own false ds), none, none] _
        refine es_Seq (es_Asg (en_pick 0 (dd := ds1) (b0 := true) rfl hd1 (by omega) (k := ds.length) hne (by omega) rfl fun j ds2 j0 j1 hd2 => ⟨_, rfl, ?_⟩))
        show Ens (sSeq _ _) [some (.own true ds2), some (.val (seqD tup ds)), some (.own false ds), some (.val (.int j)), none] _
        obtain ⟨x, hx, hmx⟩ := at_some (xs := ds) j0 j1
        obtain ⟨x', ds3, q1, q2, q3⟩ := hr W (B + 2) ds2 x hd2 (by omega) hW (hall x hmx)
        refine es_Seq (es_SetOwn 2 (en_CallK 0 (dd := ds2) (b0 := true) rfl (en_Cons (en_IxOwn 2 (dd := ds) (b0 := false) rfl (en_Var 3 rfl ⟨j, false, ds, x, rfl, rfl, hx, en_Nil ⟨rfl, true, ds2, _, ds3, rfl, q1, false, ds, rfl, ?_⟩⟩)))))
        refine en_Var 3 rfl ⟨j, false, ds, j.toNat, rfl, rfl, ix_some j0 j1, ?_⟩
        show Ens (sRet _) [some (.own true ds3), some (.val (seqD tup ds)), some (.own false (ds.set j.toNat x')), some (.val (.int j)), none] _
        have fin : fine (W + 1) (n + 1) (seqD tup (ds.set j.toNat x')) = true := by
          refine fine_sq ?_ fun d hd => ?_
          · rw [List.length_set]
            omega
          · rcases set_mem hd with q | q
            · exact up d q
            · rw [q]
              exact q2
        refine es_Ret (en_IfE ⟨tup, _, sq_isiT rfl, ?_⟩)
        cases tup with
        | true => exact en_CB (en_Cons (en_Froz 2 rfl (en_Nil ⟨_, rfl, ds3, rfl, _, rfl, _, rfl, fin, q3.mono (by omega)⟩)))
        | false => exact en_Froz 2 rfl ⟨ds3, rfl, _, rfl, _, rfl, fin, q3.mono (by omega)⟩
      · rw [decide_eq_false hr0]
        show Ens sSkip [some (.own true ds1), some (.val (seqD tup ds)), none, none, none] _
        exact es_Skip (part2 ds1 (B + 1) hd1 (Nat.le_refl _))
    · rw [decide_eq_false hne]
      show Ens sSkip [some (.own true ds0), some (.val (seqD tup ds)), none, none, none] _
      exact es_Skip (part2 ds0 B h (by omega))
theorem spoilt_all : ∀ (n m : Nat), n < m → n ≤ 50 → ∀ (W B : Nat) (ds0 : List D) (d : D), DOk B ds0 → B ≤ 900000000 - 2 * n → W ≤ 900 → fine W n d = true → ∃ d' ds1, f_law_spoilt m ds0 [d] = some (.val d', ds1) ∧ fine (W + 1) n d' = true ∧ DOk (B + 2 * n + 2) ds1 := by
  intro n
  induction n with
  | zero =>
    intro m hm _ W B ds0 d h hB hW hd
    obtain ⟨k, rfl⟩ : ∃ k, m = k + 1 := ⟨m - 1, by omega⟩
    have h1 : isTup d = false := by cases d <;> first | rfl | cases hd
    have h2 : isLst d = false := by cases d <;> first | rfl | cases hd
    exact spoilt_leaf h (by omega) hW hd h1 h2
  | succ n ih =>
    intro m hm hn W B ds0 d h hB hW hd
    obtain ⟨k, rfl⟩ : ∃ k, m = k + 1 := ⟨m - 1, by omega⟩
    have rc : ∀ (W B : Nat) (ds0 : List D) (d : D), DOk B ds0 → B ≤ 900000000 - 2 * n → W ≤ 900 → fine W n d = true → ∃ d' ds1, f_law_spoilt k ds0 [d] = some (.val d', ds1) ∧ fine (W + 1) n d' = true ∧ DOk (B + 2 * n + 2) ds1 := fun W B ds0 d => ih k (by omega) (by omega) W B ds0 d
    have leaf : isTup d = false → isLst d = false → ∃ d' ds1, f_law_spoilt (k + 1) ds0 [d] = some (.val d', ds1) ∧ fine (W + 1) (n + 1) d' = true ∧ DOk (B + 2 * (n + 1) + 2) ds1 := fun h1 h2 => by
      obtain ⟨d', ds1, q1, q2, q3⟩ := spoilt_leaf (fr := f_law_spoilt k) h (by omega) hW hd h1 h2
      exact ⟨d', ds1, q1, q2, q3.mono (by omega)⟩
    cases d with
    | tuple ds => exact spoilt_seq (tup := true) h hB hW hd (by omega) rc
    | list ds => exact spoilt_seq (tup := false) h hB hW hd (by omega) rc
    | _ => exact leaf rfl rfl
end PB

namespace PB
open PySem PySem.Spec PyProof.Rows L2
theorem fine_at {W n : Nat} {d : D} (h : fine W n d = true) (hs : isStr d = true ∨ whole d = true) (hW : W ≤ 1000) : fine 1000 0 d = true := by
  cases d with
  | str s =>
    rw [fine_strE] at h ⊢
    exact h
  | int i =>
    have : i.natAbs ≤ 10 ^ 31 + W := by cases n <;> simpa [fine] using h
    simp [fine]
    omega
  | _ => rcases hs with z | z <;> cases z
theorem fine_two {a b : D} (ha : fine 1000 0 a = true) (hb : fine 1000 0 b = true) : fine 1000 1 (.tuple [a, b]) = true := by
  simp [fine, ha, hb]
theorem house_names {h : D} (q : house h = true) : ∃ s cs rs, h = .tuple [.str s, .tuple [.tuple cs, .tuple rs]] ∧ ∀ c ∈ cs, name c = true := by
  obtain ⟨a, b, rfl, na, tb⟩ := house_inv q
  have sa := name_str na
  cases a <;> cases sa
  unfold table at tb
  split at tb
  · rename_i cs r
    rw [Bool.and_eq_true] at tb
    obtain ⟨tc, tr⟩ := tb
    unfold rowsOk at tr
    split at tr
    · simp only [cols, Bool.and_eq_true, decide_eq_true_eq] at tc
      exact ⟨_, cs, _, rfl, fun c hc => List.all_eq_true.mp tc.1.2 c hc⟩
    · cases tr
  · cases tb
theorem parts_fine {W n : Nat} {s : Str} {cs rs : List D} (h : fine W n (.tuple [.str s, .tuple [.tuple cs, .tuple rs]]) = true) : ∃ m, (∀ c ∈ cs, fine W m c = true) ∧ (∀ r ∈ rs, fine W m r = true) ∧ fine W m (.str s) = true := by
  obtain ⟨m, rfl, _, h1⟩ := fine_tup h
  obtain ⟨m2, rfl, _, h2⟩ := fine_tup (h1 _ (List.mem_cons_of_mem _ List.mem_cons_self))
  obtain ⟨m3, e3, _, h3⟩ := fine_tup (h2 _ List.mem_cons_self)
  cases e3
  obtain ⟨m4, e4, _, h4⟩ := fine_tup (h2 _ (List.mem_cons_of_mem _ List.mem_cons_self))
  cases e4
  refine ⟨m3, h3, h4, ?_⟩
  have := h1 _ List.mem_cons_self
  rw [fine_strE] at this ⊢
  exact this
theorem cols_fine {W n : Nat} {hs : List D} (hf : ∀ x ∈ hs, fine W n x = true) (hW : W ≤ 1000) (h : ∀ x ∈ hs, hsH x = true) : ∀ m ∈ colsL hs, fine 1000 1 m = true := fun m hm => by
  obtain ⟨x, hx, hm⟩ := List.mem_flatMap.mp hm
  obtain ⟨s, cs, rs, rfl, _, _, h3, h4⟩ := hsH_inv (h x hx)
  obtain ⟨k, f1, f2, f3⟩ := parts_fine (hf _ hx)
  obtain ⟨c, hc, rfl⟩ := List.mem_map.mp hm
  exact fine_two (fine_at f3 (.inl rfl) hW) (fine_at (f1 c hc) (.inl (h3 c hc)) hW)
theorem rows_fine {W n : Nat} {hs : List D} (hf : ∀ x ∈ hs, fine W n x = true) (hW : W ≤ 1000) (h : ∀ x ∈ hs, hsH x = true) : ∀ m ∈ rowsL hs, fine 1000 1 m = true := fun m hm => by
  obtain ⟨x, hx, hm⟩ := List.mem_flatMap.mp hm
  obtain ⟨s, cs, rs, rfl, _, _, h3, h4⟩ := hsH_inv (h x hx)
  obtain ⟨k, f1, f2, f3⟩ := parts_fine (hf _ hx)
  obtain ⟨r, hr, rfl⟩ := List.mem_map.mp hm
  obtain ⟨hp, hw⟩ := h4 r hr
  obtain ⟨a, b, rfl⟩ := pair_inv hp
  obtain ⟨k', rfl, _, f4⟩ := fine_tup (f2 _ hr)
  exact fine_two (fine_at f3 (.inl rfl) hW) (fine_at (f4 a List.mem_cons_self) (.inr hw) hW)
theorem rows_mem {hs : List D} (h : ∀ x ∈ hs, hsH x = true) : RowMem (rowsL hs) := fun m hm => by
  obtain ⟨x, hx, hm⟩ := List.mem_flatMap.mp hm
  obtain ⟨s, cs, rs, rfl, _, _, h3, h4⟩ := hsH_inv (h x hx)
  obtain ⟨r, hr, rfl⟩ := List.mem_map.mp hm
  obtain ⟨hp, hw⟩ := h4 r hr
  obtain ⟨a, b, rfl⟩ := pair_inv hp
  have hw' : whole a = true := hw
  cases a <;> cases hw'
  exact ⟨s, _, rfl⟩
theorem rows_ok {W n : Nat} {hs : List D} (hf : ∀ x ∈ hs, fine W n x = true) (hW : W ≤ 1000) (h : ∀ x ∈ hs, hsH x = true) : MemOk (rowsL hs) := ⟨.inr (rows_mem h), rows_fine hf hW h⟩
theorem cols_ok {W n : Nat} {hs : List D} (hf : ∀ x ∈ hs, fine W n x = true) (hW : W ≤ 1000) (h : ∀ x ∈ hs, hsH x = true) (hn : ∀ x ∈ hs, house x = true) : MemOk (colsL hs) := by
  refine ⟨.inl fun m hm => ?_, cols_fine hf hW h⟩
  obtain ⟨x, hx, hm⟩ := List.mem_flatMap.mp hm
  obtain ⟨s, cs, rs, rfl, nm⟩ := house_names (hn x hx)
  obtain ⟨c, hc, rfl⟩ := List.mem_map.mp hm
  have hc' := nm c hc
  have sc := name_str hc'
  cases c <;> cases sc
  exact ⟨s, _, rfl, hc'⟩
def listOf : D → List D
  | .tuple ds => ds
  | _ => []
/-- a book -/
def bookB : D → Bool
  | .tuple [h, l, k, t, c] => houses h && (linksB (colsL (listOf h)) l && (keysB (colsL (listOf h)) k && (linksB (rowsL (listOf h)) t && linksB (rowsL (listOf h)) c)))
  | _ => false
theorem len5 {ds : List D} (h : ds.length = 5) : ∃ a b c d e, ds = [a, b, c, d, e] := by
  match ds, h with
  | [a, b, c, d, e], _ => exact ⟨a, b, c, d, e, rfl⟩
theorem bookB_no {ds : List D} (h : ¬ ds.length = 5) : bookB (.tuple ds) = false := by
  unfold bookB
  split
  · rename_i q
    cases q
    simp at h
  · rfl
end PB

namespace PB
open PySem PySem.Spec PyProof.Rows L2
open PySem.W (alike alikeAll dataLt AllAlike)

/-! ### drawn houses -/
theorem tw {l : List D} {k : Nat} (h : l.length ≤ k) (W n : Nat) (hW : k ≤ W) (ha : ∀ d ∈ l, fine W n d = true) : fine W (n + 1) (.tuple l) = true := fine_sq (tup := true) (by omega) ha
theorem mem_app {p : D → Prop} {l : List D} {x : D} (h : ∀ d ∈ l, p d) (hx : p x) : ∀ d ∈ l ++ [x], p d := fun d hd => by
  rcases List.mem_append.mp hd with q | q
  · exact h d q
  · rw [List.mem_singleton.mp q]
    exact hx
theorem fine2 {W n : Nat} {a b : D} (hW : 2 ≤ W) (ha : fine W n a = true) (hb : fine W n b = true) : fine W (n + 1) (.tuple [a, b]) = true := fine_sq (tup := true) (by simpa using hW) fun d hd => by
  simp only [List.mem_cons, List.not_mem_nil, or_false] at hd
  rcases hd with rfl | rfl
  · exact ha
  · exact hb
theorem cut_len (l : List D) (lo hi : Option Int) : (cutD l lo hi).length ≤ l.length := by
  unfold cutD
  rw [List.length_take, List.length_drop]
  omega
theorem cut_mem {l : List D} {lo hi : Option Int} {d : D} (h : d ∈ cutD l lo hi) : d ∈ l := by
  unfold cutD at h
  exact List.mem_of_mem_drop (List.mem_of_mem_take h)
theorem fine_lit {W n : Nat} {s : String} (h : (Str.ofString s).length ≤ 2000) : fine W n (.str (Str.ofString s)) = true := by
  rw [fine_strE, strOk_of, decide_eq_true h]
  rfl
theorem fine_int {W n : Nat} {i : Int} (h : i.natAbs ≤ 10000000) : fine W n (.int i) = true := by
  have : i.natAbs ≤ 10 ^ 31 + W := Nat.le_trans h (Nat.le_trans (by decide) (Nat.le_add_right _ _))
  cases n <;> exact decide_eq_true this
theorem dNe_unit {W n : Nat} {ds : List D} (h : fine W n (.tuple ds) = true) (hn : n ≤ 60) : dNe (.tuple ds) (.tuple []) = some (.bool (!ds.isEmpty)) := by
  unfold dNe
  rw [fine_shaped h hn, show SeqAt.shaped (.tuple []) = true by decide +kernel]
  cases ds <;> rfl
theorem cut_pos {a b c d : D} {r : Int} (h : 0 ≤ r) : 1 ≤ (cutD [a, b, c, d] none (some (1 + r))).length := by
  obtain ⟨k, rfl⟩ := Int.eq_ofNat_of_zero_le h
  unfold cutD
  rw [HT.sIx_none, show (1 + (k : Int)) = ((1 + k : Nat) : Int) by omega, HT.sIx_nat]
  simp only [List.length_take, List.length_drop, List.length_cons, List.length_nil]
  omega
def slv (o : Option D) : Option Sl := o.map Sl.val
theorem range_mem {lo : Int} {n : Nat} {d : D} (h : d ∈ rangeD lo n) : ∃ i : Nat, i < n ∧ d = .int (lo + i) := by
  unfold rangeD at h
  obtain ⟨i, hi, rfl⟩ := List.mem_map.mp h
  exact ⟨i, List.mem_range.mp hi, rfl⟩
/-- a drawn house -/
def drH : D → Bool
  | .tuple [.str s, .tuple [.tuple cs, .tuple rs]] => hsH (.tuple [.str s, .tuple [.tuple cs, .tuple rs]]) && decide (1 ≤ cs.length) && cs.all name
  | _ => false
structure Drawn (fs : List D) : Prop where
  fin : fine 9 6 (.tuple fs) = true
  one : 1 ≤ fs.length
  four : fs.length ≤ 4
  all : ∀ x ∈ fs, drH x = true
  ok : houses (.tuple fs) = true
theorem rowOk1 {rs : List D} (h : ∀ r ∈ rs, fine 9 2 r = true ∧ (pair r && whole (fstD r)) = true) : rs.all (fun r => pair r && whole (fstD r)) = true := List.all_eq_true.mpr fun r hr => (h r hr).2
theorem range_at {lo : Int} {n j : Nat} {d : D} (h : (rangeD lo n)[j]? = some d) : d = .int (lo + (j : Nat)) := by
  unfold rangeD at h
  rw [List.getElem?_map] at h
  obtain ⟨i, hi, rfl⟩ := Option.map_eq_some_iff.mp h
  have := List.getElem?_eq_some_iff.mp hi
  obtain ⟨h1, h2⟩ := this
  rw [List.getElem_range] at h2
  rw [h2]
theorem lt_ints (i j : Int) : dataLt (.int i) (.int j) = decide (i < j) := W.dataLt_int i j
theorem take_snoc {α : Type} {l : List α} {i : Nat} {x : α} (h : l[i]? = some x) : l.take i ++ [x] = l.take (i + 1) := by
  rw [List.take_add_one, h]
  rfl
/-- one row -/
theorem houses_ok {B mo ro : Nat} {ds0 : List D} (h : DOk B ds0) (hB : B ≤ 900000000) (m1 : 1 ≤ mo) (m4 : mo ≤ 4) (hro : ro ≤ 5) : ∃ fs ds1, f_law_houses ds0 [.int (mo : Nat), .int (ro : Nat)] = some (.val (.tuple fs), ds1) ∧ Drawn fs ∧ DOk (B + 1000) ds1 := by
  have := runK_ens (n := 9) (M := M_law_houses) (ds0 := ds0) (ds := [.int (mo : Nat), .int (ro : Nat)]) (R := fun r ds1 => ∃ d, r = .val (.tuple d) ∧ Drawn d ∧ DOk (B + 1000) ds1) ?_
  · obtain ⟨r, ds1, q1, d, rfl, q2, q3⟩ := this
    exact ⟨d, ds1, q1, q2, q3⟩
  · unfold M_law_houses
    refine es_Seq (es_Own 3 (en_Sz (en_Nil ⟨by simp, by simp [startK], rfl, ?_⟩)))
    show Ens (sSeq _ _) [some (.own true ds0), some (.val (.int (mo : Nat))), some (.val (.int (ro : Nat))), some (.own false []), none, none, none, none, none] _
    have ev : (mNew (mSz (mCons (mC (.str "ann")) (mCons (mC (.str "bo")) (mCons (mC (.str "cy")) (mCons (mC (.str "dee")) mNil)))))) [some (.own true ds0), some (.val (.int (mo : Nat))), some (.val (.int (ro : Nat))), some (.own false []), none, none, none, none, none] = some (.list [.str "ann", .str "bo", .str "cy", .str "dee"], [some (.own true ds0), some (.val (.int (mo : Nat))), some (.val (.int (ro : Nat))), some (.own false []), none, none, none, none, none]) := by
      simp [szOk]
    refine es_Seq (es_For (en_It (en_Sl ⟨_, _, ev, en_NoPart (en_Part (en_Bin (en_C (en_pick 0 (dd := ds0) (b0 := true) rfl h (by omega) (k := (mo : Nat)) (by omega) (by omega) rfl fun r ds1 r0 r1 hd1 => ⟨_, rfl, 1 + r, rfl, _, rfl, _, rfl, ?_⟩))))⟩)))
    -- the houses
    refine ⟨fun i e => ∃ (dk : List D) (fs : List D) (s4 s5 s6 s7 : Option D), e = [some (.own true dk), some (.val (.int (mo : Nat))), some (.val (.int (ro : Nat))), some (.own false fs), slv s4, slv s5, slv s6, slv s7, none] ∧ DOk (B + 1 + 100 * i) dk ∧ fs.map fstD = (cutD [.str "ann", .str "bo", .str "cy", .str "dee"] none (some (1 + r))).take i ∧ ∀ d ∈ fs, fine 9 5 d = true ∧ drH d = true ∧ house d = true, ⟨ds1, [], none, none, none, none, rfl, hd1.mono (by omega), rfl, fun _ h => nomatch h⟩, ?_, ?_⟩
    · rintro i nm e hi ⟨dk, fs, s4, s5, s6, s7, rfl, hdk, hfm, hfa⟩
      have hfl : fs.length = i := by
        have a1 := (List.getElem?_eq_some_iff.mp hi).1
        have a2 := congrArg List.length hfm
        rw [List.length_map, List.length_take] at a2
        omega
      have hnm : nm ∈ ([.str "ann", .str "bo", .str "cy", .str "dee"] : List D) := cut_mem (List.mem_of_getElem? hi)
      have hi4 : i < 4 := by
        have a1 := (List.getElem?_eq_some_iff.mp hi).1
        have a2 := cut_len [.str "ann", .str "bo", .str "cy", .str "dee"] none (some (1 + r))
        simp only [List.length_cons, List.length_nil] at a2
        omega
      have fnm : fine 9 4 nm = true := by
        have all : ([.str "ann", .str "bo", .str "cy", .str "dee"] : List D).all (fine 9 4) = true := by decide +kernel
        exact List.all_eq_true.mp all nm hnm
      refine ⟨[some (.own true dk), some (.val (.int (mo : Nat))), some (.val (.int (ro : Nat))), some (.own false fs), some (.val nm), slv s5, slv s6, slv s7, none], by cases s4 <;> rfl, ?_⟩
      -- columns
      have ev2 : (mNew (mSz (mCons (mC (.str "a")) (mCons (mC (.str "b")) (mCons (mC (.str "c")) (mCons (mC (.str "d")) mNil)))))) [some (.own true dk), some (.val (.int (mo : Nat))), some (.val (.int (ro : Nat))), some (.own false fs), some (.val nm), slv s5, slv s6, slv s7, none] = some (.list [.str "a", .str "b", .str "c", .str "d"], [some (.own true dk), some (.val (.int (mo : Nat))), some (.val (.int (ro : Nat))), some (.own false fs), some (.val nm), slv s5, slv s6, slv s7, none]) := by
        simp [szOk]
      refine es_Seq (es_Asg (en_CB (en_Cons (en_New (en_Lc (en_It ⟨_, _, ev2, [.str "a", .str "b", .str "c", .str "d"], rfl, by decide, _, rfl, ?_⟩))))))
      refine ⟨fun j e acc => ∃ dk', e = [some (.own true dk'), some (.val (.int (mo : Nat))), some (.val (.int (ro : Nat))), some (.own false fs), some (.val nm), slv s5, slv s6, slv s7, none] ∧ DOk (B + 1 + 100 * i + j) dk' ∧ acc.Sublist (([.str "a", .str "b", .str "c", .str "d"] : List D).take j) ∧ ∀ d ∈ acc, fine 9 0 d = true ∧ name d = true, ⟨dk, rfl, hdk.mono (by omega), .slnil, fun _ h => nomatch h⟩, ?_, ?_⟩
      · rintro j col e acc hj ⟨dk', rfl, hdk', hal, hac⟩
        have hj4 : j < 4 := (List.getElem?_eq_some_iff.mp hj).1
        have fcol : fine 9 0 col = true := by
          have all : ([.str "a", .str "b", .str "c", .str "d"] : List D).all (fine 9 0) = true := by decide +kernel
          exact List.all_eq_true.mp all col (List.mem_of_getElem? hj)
        have ncol : name col = true := by
          have all : ([.str "a", .str "b", .str "c", .str "d"] : List D).all name = true := by decide +kernel
          exact List.all_eq_true.mp all col (List.mem_of_getElem? hj)
        refine ⟨[some (.own true dk'), some (.val (.int (mo : Nat))), some (.val (.int (ro : Nat))), some (.own false fs), some (.val nm), slv s5, slv s6, slv s7, some (.val col)], rfl, en_B (en_Bin (en_pick 0 (dd := dk') (b0 := true) rfl hdk' (by omega) (k := 3) (by decide) (by decide) rfl fun r2 dk2 _ _ hd2 => en_C ⟨.bool (decide ((0 : Int) < r2)), rfl, decide ((0 : Int) < r2), rfl, ?_⟩))⟩
        cases decide ((0 : Int) < r2) with
        | true => exact iteT (en_Var 8 rfl ⟨_, rfl, dk2, rfl, hd2.mono (by omega), by rw [← take_snoc hj]; exact hal.append (List.Sublist.refl _), mem_app hac ⟨fcol, ncol⟩⟩)
        | false => exact iteF ⟨_, rfl, dk2, rfl, hd2.mono (by omega), by rw [← take_snoc hj]; exact hal.trans (List.sublist_append_left _ _), hac⟩
      · rintro e acc ⟨dk2, rfl, hdk2, hal, hac⟩
        have hal : acc.Sublist [.str "a", .str "b", .str "c", .str "d"] := hal
        have hal4 : acc.length ≤ 4 := hal.length_le
        have hdk2 : DOk (B + 1 + 100 * i + 4) dk2 := hdk2
        refine en_Nil ⟨.tuple acc, rfl, [some (.own true dk2), some (.val (.int (mo : Nat))), some (.val (.int (ro : Nat))), some (.own false fs), some (.val nm), some (.val (.tuple acc)), slv s6, slv s7, none], by cases s5 <;> rfl, ?_⟩
        have facc : fine 9 1 (.tuple acc) = true := tw hal4 9 0 (by decide) fun d hd => (hac d hd).1
        -- columns, none: 'a'
        have ev3 : (mIfE (mB (mBin dNe (mVar 5) (mTup mNil))) (mVar 5) (mTup (mCons (mC (.str "a")) mNil))) [some (.own true dk2), some (.val (.int (mo : Nat))), some (.val (.int (ro : Nat))), some (.own false fs), some (.val nm), some (.val (.tuple acc)), slv s6, slv s7, none] =
            some (.tuple (if acc.isEmpty then [.str "a"] else acc), [some (.own true dk2), some (.val (.int (mo : Nat))), some (.val (.int (ro : Nat))), some (.own false fs), some (.val nm), some (.val (.tuple acc)), slv s6, slv s7, none]) := by
          have := dNe_unit facc (by decide)
          cases hemp : acc.isEmpty <;> simp [this, hemp, szOk]
        refine es_Seq (es_Asg ⟨_, _, ev3, _, rfl, ?_⟩)
        show Ens (sSeq _ _) [some (.own true dk2), some (.val (.int (mo : Nat))), some (.val (.int (ro : Nat))), some (.own false fs), some (.val nm), some (.val (.tuple (if acc.isEmpty then [.str "a"] else acc))), slv s6, slv s7, none] _
        obtain ⟨cs, hcs⟩ : ∃ cs, cs = (if acc.isEmpty = true then [.str "a"] else acc) := ⟨_, rfl⟩
        rw [← hcs]
        have hc4 : cs.length ≤ 4 := by
          rw [hcs]
          split
          · simp
          · exact hal4
        have hc1 : 1 ≤ cs.length := by
          rw [hcs]
          split
          · simp
          · rename_i z
            cases acc with
            | nil => simp at z
            | cons _ _ => simp
        have rcs : risesB cs = true := by
          rw [hcs]
          split
          · rfl
          · have pw : ([.str "a", .str "b", .str "c", .str "d"] : List D).Pairwise (fun a b => dataLt a b = true) := by decide +kernel
            exact pw_rises (pw.sublist hal)
        have fcs : ∀ d ∈ cs, fine 9 0 d = true ∧ name d = true := by
          rw [hcs]
          split
          · intro d hd
            rw [List.mem_singleton.mp hd]
            decide +kernel
          · exact hac
        refine es_Seq (es_Own 6 (en_Sz (en_Nil ⟨by simp, by simp, by cases s6 <;> rfl, ?_⟩)))
        show Ens (sSeq _ _) [some (.own true dk2), some (.val (.int (mo : Nat))), some (.val (.int (ro : Nat))), some (.own false fs), some (.val nm), some (.val (.tuple cs)), some (.own false []), slv s7, none] _
        -- rows
        refine es_Seq (es_For (en_Range1 (en_pick 0 (dd := dk2) (b0 := true) rfl hdk2 (by omega) (k := (ro : Nat) + 1) (by omega) (by omega) (by simp) fun r2 dk3 r20 r21 hd3 => ⟨r2, rfl, by omega, by omega, ?_⟩)))
        refine ⟨fun j e => ∃ (dk : List D) (rs : List D) (s7 : Option D), e = [some (.own true dk), some (.val (.int (mo : Nat))), some (.val (.int (ro : Nat))), some (.own false fs), some (.val nm), some (.val (.tuple cs)), some (.own false rs), slv s7, none] ∧ DOk (B + 7 + 100 * i + 10 * j) dk ∧ rs.length = j ∧ (rs.map fstD).Pairwise (fun a b => dataLt a b = true) ∧ (∀ d ∈ rs, numRow cs.length d = true ∧ ∃ z : Int, fstD d = .int z ∧ z < 3 * (j : Nat)) ∧ ∀ d ∈ rs, fine 9 2 d = true ∧ (pair d && whole (fstD d)) = true, ⟨dk3, [], s7, rfl, hd3.mono (by omega), rfl, .nil, (fun _ h => nomatch h), fun _ h => nomatch h⟩, ?_, ?_⟩
        · rintro j num e hj ⟨dk4, rs, s7, rfl, hdk4, hrl, hpw, hnr, hra⟩
          obtain ⟨q, rfl, hqj⟩ : ∃ q : Nat, num = .int (0 + (q : Nat)) ∧ q = j := ⟨j, range_at hj, rfl⟩
          have hj6 : j < 6 := by
            have := (List.getElem?_eq_some_iff.mp hj).1
            rw [rangeD_len] at this
            omega
          refine ⟨[some (.own true dk4), some (.val (.int (mo : Nat))), some (.val (.int (ro : Nat))), some (.own false fs), some (.val nm), some (.val (.tuple cs)), some (.own false rs), some (.val (.int (0 + (q : Nat)))), none], by cases s7 <;> rfl, ?_⟩
          refine es_Drop (en_Append 6 (b0 := false) (dd := rs) rfl (en_Tup (en_Cons (en_Bin ?_))))
          refine en_Bin (en_C (en_Var 7 rfl ⟨.int (3 * (0 + (q : Nat))), by simp [dMul, iOp], en_pick 0 (dd := dk4) (b0 := true) rfl hdk4 (by omega) (k := 3) (by decide) (by decide) rfl fun r3 dk5 r30 r31 hd5 => ⟨_, rfl, ?_⟩⟩))
          refine en_Cons (en_CB (en_Cons (en_New (en_Lc (en_It (en_Var 5 rfl ⟨cs, rfl, by omega, _, rfl, ?_⟩))))))
          refine ⟨fun k e acc => ∃ dk', e = [some (.own true dk'), some (.val (.int (mo : Nat))), some (.val (.int (ro : Nat))), some (.own false fs), some (.val nm), some (.val (.tuple cs)), some (.own false rs), some (.val (.int (0 + (q : Nat)))), none] ∧ DOk (B + 8 + 100 * i + 10 * j + 2 * k) dk' ∧ acc.length = k ∧ ∀ d ∈ acc, fine 9 0 d = true ∧ worthN d = true, ⟨dk5, rfl, hd5.mono (by omega), rfl, fun _ h => nomatch h⟩, ?_, ?_⟩
          · rintro k col e acc2 hk ⟨dk', rfl, hdk', hal2, hac2⟩
            have hk4 : k < 4 := by
              have := (List.getElem?_eq_some_iff.mp hk).1
              omega
            obtain ⟨w, dk6, w1, ⟨w2, w4⟩, w3⟩ := worth_ok hdk' (by omega)
            refine ⟨[some (.own true dk'), some (.val (.int (mo : Nat))), some (.val (.int (ro : Nat))), some (.own false fs), some (.val nm), some (.val (.tuple cs)), some (.own false rs), some (.val (.int (0 + (q : Nat)))), some (.val col)], rfl, en_Yes (iteT (en_CallK 0 (dd := dk') (b0 := true) rfl (en_Nil ⟨rfl, true, dk', _, dk6, rfl, w1, _, rfl, dk6, rfl, w3.mono (by omega), ?_, ?_⟩)))⟩
            · rw [List.length_append, List.length_singleton]
              omega
            · exact mem_app hac2 ⟨fine_mono (by decide) (Nat.le_refl _) w2, w4⟩
          · rintro e acc2 ⟨dk', rfl, hdk', hal2, hac2⟩
            refine en_Nil ⟨.tuple acc2, rfl, en_Nil ⟨by simp, false, rs, rfl, by omega, rfl, dk', rs ++ [.tuple [.int (3 * (0 + (q : Nat)) + r3), .tuple acc2]], some (.int (0 + (q : Nat))), rfl, hdk'.mono (by omega), ?_, ?_, ?_, mem_app hra ?_⟩⟩
            · rw [List.length_append, List.length_singleton, hrl]
            · rw [List.map_append, List.pairwise_append]
              refine ⟨hpw, List.pairwise_singleton _ _, fun x hx y hy => ?_⟩
              obtain ⟨x', hx', rfl⟩ := List.mem_map.mp hx
              obtain ⟨_, z, e1, e2⟩ := hnr x' hx'
              rw [List.mem_singleton.mp hy, e1]
              show dataLt (.int z) (.int (3 * (0 + (q : Nat)) + r3)) = true
              rw [lt_ints, decide_eq_true_eq]
              omega
            · have hal2' : acc2.length = cs.length := hal2
              refine mem_app (fun d hd => ?_) ⟨?_, 3 * (0 + (q : Nat)) + r3, rfl, by omega⟩
              · obtain ⟨e0, z, e1, e2⟩ := hnr d hd
                exact ⟨e0, z, e1, by omega⟩
              · show (idOk (.int (3 * (0 + (q : Nat)) + r3)) && rowOk cs.length (.tuple acc2)) = true
                have i1 : idOk (.int (3 * (0 + (q : Nat)) + r3)) = true := by
                  show (decide (0 ≤ 3 * (0 + (q : Nat)) + r3) && decide (3 * (0 + (q : Nat)) + r3 ≤ 999)) = true
                  rw [Bool.and_eq_true, decide_eq_true_eq, decide_eq_true_eq]
                  omega
                rw [i1, Bool.true_and]
                show (decide (acc2.length = cs.length) && acc2.all worthN) = true
                rw [decide_eq_true hal2', Bool.true_and]
                exact List.all_eq_true.mpr fun d hd => (hac2 d hd).2
            · exact ⟨fine2 (by decide) (fine_int (by omega)) (tw (k := 4) (by omega) 9 0 (by decide) fun d hd => (hac2 d hd).1), rfl⟩
        · rintro e ⟨dk4, rs, s7, rfl, hdk4, hrl, hpw, hnr, hra⟩
          rw [rangeD_len] at hrl hdk4
          refine es_Drop (en_Append 3 (b0 := false) (dd := fs) rfl (en_Tup (en_Cons (en_Var 4 rfl (en_Cons (en_Tup (en_Cons (en_Var 5 rfl (en_Cons (en_CB (en_Cons (en_Froz 6 rfl (en_Nil ⟨.tuple rs, rfl, en_Nil ⟨by simp, en_Nil ⟨by simp, false, fs, rfl, by omega, rfl, ?_⟩⟩⟩)))))))))))))
          refine ⟨dk4, fs ++ [.tuple [nm, .tuple [.tuple cs, .tuple rs]]], some nm, some (.tuple cs), some (.list rs), s7, rfl, hdk4.mono (by omega), ?_, mem_app hfa ?_⟩
          · rw [List.map_append, hfm, ← take_snoc hi]
            rfl
          · refine ⟨fine2 (by decide) fnm (fine2 (by decide) ?_ ?_), ?_, ?_⟩
            · exact tw (k := 4) hc4 9 2 (by decide) fun d hd => fine_mono (Nat.le_refl _) (by decide) (fcs d hd).1
            · exact tw (k := 6) (by omega) 9 2 (by decide) fun d hd => (hra d hd).1
            · have snm : isStr nm = true := by
                have all : ([.str "ann", .str "bo", .str "cy", .str "dee"] : List D).all isStr = true := by decide +kernel
                exact List.all_eq_true.mp all nm hnm
              cases nm <;> cases snm
              have c5 : cs.length ≤ 5 := by omega
              have r8 : rs.length ≤ 8 := by omega
              have n1 : cs.all name = true := List.all_eq_true.mpr fun c hc => (fcs c hc).2
              have n2 : cs.all isStr = true := List.all_eq_true.mpr fun c hc => name_str (fcs c hc).2
              simp only [drH, hsH, n1, n2, rowOk1 hra, c5, r8, hc1, decide_true, Bool.and_true]
            · have n1 : cs.all name = true := List.all_eq_true.mpr fun c hc => (fcs c hc).2
              have nn : name nm = true := by
                have all : ([.str "ann", .str "bo", .str "cy", .str "dee"] : List D).all name = true := by decide +kernel
                exact List.all_eq_true.mp all nm hnm
              have c5 : cs.length ≤ 5 := by omega
              have r8 : rs.length ≤ 8 := by omega
              show (name nm && (cols (.tuple cs) && rowsOk cs.length (.tuple rs))) = true
              rw [nn, Bool.true_and, Bool.and_eq_true]
              refine ⟨?_, ?_⟩
              · simp only [cols, hc1, c5, n1, rcs, decide_true, Bool.and_true]
              · have n3 : rs.all (numRow cs.length) = true := List.all_eq_true.mpr fun d hd => (hnr d hd).1
                simp only [rowsOk, r8, n3, pw_rises hpw, decide_true, Bool.and_true]
    · rintro e ⟨dk, fs, s4, s5, s6, s7, rfl, hdk, hfm, hfa⟩
      rw [List.take_length] at hfm
      have hfl := congrArg List.length hfm
      rw [List.length_map] at hfl
      have a2 := cut_len [.str "ann", .str "bo", .str "cy", .str "dee"] none (some (1 + r))
      simp only [List.length_cons, List.length_nil] at a2
      have a3 : 1 ≤ (cutD [.str "ann", .str "bo", .str "cy", .str "dee"] none (some (1 + r))).length := cut_pos r0
      refine es_Ret (en_CB (en_Cons (en_Froz 3 rfl (en_Nil ⟨.tuple fs, rfl, dk, rfl, _, rfl, _, rfl, ⟨?_, by omega, by omega, fun x hx => (hfa x hx).2.1, ?_⟩, hdk.mono (by omega)⟩))))
      · exact tw (k := 4) (by omega) 9 5 (by decide) fun d hd => (hfa d hd).1
      · have l1 : 1 ≤ fs.length := by omega
        have l4 : fs.length ≤ 4 := by omega
        have ah : fs.all house = true := List.all_eq_true.mpr fun d hd => (hfa d hd).2.2
        have pw : ([.str "ann", .str "bo", .str "cy", .str "dee"] : List D).Pairwise (fun a b => dataLt a b = true) := by decide +kernel
        have rn : risesB (fs.map fstD) = true := by
          rw [hfm]
          refine pw_rises (pw.sublist ?_)
          unfold cutD
          exact (List.take_sublist _ _).trans (List.drop_sublist _ _)
        simp only [houses, l1, l4, ah, rn, decide_true, Bool.and_true]
end PB

namespace PB
open PySem PySem.Spec PyProof.Rows L2
open PySem.W (alike alikeAll dataLt AllAlike)
/-! ### drawn pairs, likes, keys, books -/
theorem en_one {e : Sg} (i : Nat) {b0 : Bool} {dd : List D} {m : ML} {P : D → Sg → Prop} {B : Nat} {xs : List D} (h0 : e[i]? = some (some (.own b0 dd))) (hd : DOk B dd) (hB : B ≤ 1000000000) (h1 : 0 < xs.length) (h2 : xs.length ≤ 1000) (hm : m e = some ([.list xs], e))
    (h : ∀ (d : D) (ds1 : List D), d ∈ xs → DOk (B + 1) ds1 → P d (e.set i (some (.own b0 ds1)))) : Ens (mCallK i 2 f_law_one m) e P := by
  obtain ⟨d, ds1, q1, q2, q3⟩ := one_ok hd hB h1 h2
  exact en_CallK i h0 ⟨_, _, hm, rfl, b0, dd, .val d, ds1, h0, q1, h d ds1 q2 q3⟩
theorem sort2 {mem : List D} (h : MemOk mem) {x y : D} (hx : x ∈ mem) (hy : y ∈ mem) : sortOk [x, y] = true ∧ ∃ u v, srt [x, y] = [u, v] ∧ u ∈ mem ∧ v ∈ mem := by
  have so := set_mems h (ds := [x, y]) (fun d hd => by
    simp only [List.mem_cons, List.not_mem_nil, or_false] at hd
    rcases hd with rfl | rfl
    · exact hx
    · exact hy) (by simp)
  refine ⟨?_, ?_⟩
  · simp only [sortOk, Bool.and_eq_true]
    refine ⟨⟨⟨allAlike_iff.mpr so.al, ?_⟩, decide_eq_true (depthAll_le so.dep)⟩, decide_eq_true (by simp)⟩
    unfold sortable
    rw [List.all_eq_true.mpr so.tup]
    rfl
  · have pm := srt_perm [x, y]
    have hl : (srt [x, y]).length = 2 := pm.length_eq
    match hq : srt [x, y], hl with
    | [u, v], _ =>
      refine ⟨u, v, rfl, ?_, ?_⟩
      · have : u ∈ [x, y] := pm.mem_iff.mp (by rw [hq]; simp)
        simp only [List.mem_cons, List.not_mem_nil, or_false] at this
        rcases this with rfl | rfl
        · exact hx
        · exact hy
      · have : v ∈ [x, y] := pm.mem_iff.mp (by rw [hq]; simp)
        simp only [List.mem_cons, List.not_mem_nil, or_false] at this
        rcases this with rfl | rfl
        · exact hx
        · exact hy
theorem ne_strs {W n V m : Nat} {x y : Str} (h1 : fine W n (.str x) = true) (h2 : fine V m (.str y) = true) : dNe (.str x) (.str y) = some (.bool (!(x == y))) ∧ dEq (.str x) (.str y) = some (.bool (x == y)) := by
  have s1 : SeqAt.shaped (.str x) = true := fine_shaped (W := W) (n := 0) (by rw [fine_strE] at h1 ⊢; exact h1) (by decide)
  have s2 : SeqAt.shaped (.str y) = true := fine_shaped (W := V) (n := 0) (by rw [fine_strE] at h2 ⊢; exact h2) (by decide)
  unfold dNe dEq
  rw [s1, s2, eqv_strs]
  exact ⟨rfl, rfl⟩
theorem mem_str {mem : List D} (h : MemOk mem) {d : D} (hd : d ∈ mem) : ∃ s b, d = .tuple [.str s, b] ∧ fine 1000 0 (.str s) = true ∧ fine 1000 0 b = true := by
  obtain ⟨s, b, rfl⟩ := mem_fst h hd
  obtain ⟨m, e, _, f⟩ := fine_tup (h.fin _ hd)
  cases e
  exact ⟨s, b, rfl, f _ (by simp), f _ (by simp)⟩
def PairOf (mem : List D) (d : D) : Prop := ∃ x y, d = .tuple [x, y] ∧ x ∈ mem ∧ y ∈ mem
theorem pairs_set {mem ds : List D} (h : MemOk mem) (hd : ∀ d ∈ ds, PairOf mem d) (hl : ds.length < 64) : SetOk ds := by
  refine set_tuples h (fun d hx => ?_) (fun d hx => ?_) hl
  · obtain ⟨x, y, rfl, h1, h2⟩ := hd d hx
    refine ⟨_, rfl, fun z hz => ?_⟩
    simp only [List.mem_cons, List.not_mem_nil, or_false] at hz
    rcases hz with rfl | rfl
    · exact h1
    · exact h2
  · obtain ⟨x, y, rfl, _⟩ := hd d hx
    rfl
theorem pairs_ok {B k : Nat} {ds0 mem : List D} (h : DOk B ds0) (hB : B ≤ 900000000) (hm : MemOk mem) (hl : mem.length ≤ 100) (hk : k ≤ 10) : ∃ out ds1, f_law_pairs ds0 [.list mem, .int (k : Nat)] = some (.val (.tuple out), ds1) ∧ (∀ d ∈ out, PairOf mem d) ∧ out.length ≤ k ∧ DOk (B + 30) ds1 := by
  have := runK_ens (n := 7) (M := M_law_pairs) (ds0 := ds0) (ds := [.list mem, .int (k : Nat)]) (R := fun r ds1 => ∃ d, r = .val (.tuple d) ∧ (∀ x ∈ d, PairOf mem x) ∧ d.length ≤ k ∧ DOk (B + 30) ds1) ?_
  · obtain ⟨r, ds1, q1, d, rfl, q2, q3, q4⟩ := this
    exact ⟨d, ds1, q1, q2, q3, q4⟩
  · unfold M_law_pairs
    refine es_Seq (es_Own 3 (en_Sz (en_Nil ⟨by simp, by simp [startK], rfl, ?_⟩)))
    show Ens (sSeq _ _) [some (.own true ds0), some (.val (.list mem)), some (.val (.int (k : Nat))), some (.own false []), none, none, none] _
    refine es_Seq (es_For (en_Range1 (en_pick 0 (dd := ds0) (b0 := true) rfl h (by omega) (k := (k : Nat) + 1) (by omega) (by omega) (by simp) fun r ds1 r0 r1 hd1 => ⟨r, rfl, by omega, by omega, ?_⟩)))
    refine ⟨fun i e => ∃ (dk fs : List D) (s4 s5 s6 : Option D), e = [some (.own true dk), some (.val (.list mem)), some (.val (.int (k : Nat))), some (.own false fs), slv s4, slv s5, slv s6] ∧ DOk (B + 1 + 2 * i) dk ∧ fs.length ≤ i ∧ ∀ d ∈ fs, PairOf mem d, ⟨ds1, [], none, none, none, rfl, hd1.mono (by omega), Nat.le_refl _, fun _ h => nomatch h⟩, ?_, ?_⟩
    · rintro i t e hi ⟨dk, fs, s4, s5, s6, rfl, hdk, hfl, hfa⟩
      have hi10 : i < k + 1 := by
        have := (List.getElem?_eq_some_iff.mp hi).1
        rw [rangeD_len] at this
        omega
      refine ⟨[some (.own true dk), some (.val (.list mem)), some (.val (.int (k : Nat))), some (.own false fs), some (.val t), slv s5, slv s6], by cases s4 <;> rfl, ?_⟩
      have ev : (mB (mBin dNe (mVar 1) (mNew (mSz mNil)))) [some (.own true dk), some (.val (.list mem)), some (.val (.int (k : Nat))), some (.own false fs), some (.val t), slv s5, slv s6] = some (!mem.isEmpty, [some (.own true dk), some (.val (.list mem)), some (.val (.int (k : Nat))), some (.own false fs), some (.val t), slv s5, slv s6]) := by
        have := dNe_nil hm.fin (by decide)
        simp [this]
      refine es_If ⟨_, _, ev, ?_⟩
      cases hemp : mem.isEmpty with
      | true => exact iteF (es_Skip ⟨rfl, dk, fs, some t, s5, s6, rfl, hdk.mono (by omega), by omega, hfa⟩)
      | false =>
        have hpos : 0 < mem.length := by
          cases mem with
          | nil => cases hemp
          | cons _ _ => simp
        refine iteT (es_Seq (es_Asg (en_New (en_Sort (en_New (en_Sz (en_Cons (en_one 0 (dd := dk) (b0 := true) rfl hdk (by omega) hpos (by omega) rfl fun x dk2 hx hd2 => ?_))))))))
        refine en_Cons (en_one 0 (dd := dk2) (b0 := true) rfl hd2 (by omega) hpos (by omega) rfl fun y dk3 hy hd3 => en_Nil ⟨by simp, ?_⟩)
        obtain ⟨so, u, v, es, hu, hv⟩ := sort2 hm hx hy
        refine ⟨[x, y], rfl, so, [some (.own true dk3), some (.val (.list mem)), some (.val (.int (k : Nat))), some (.own false fs), some (.val t), some (.val u), some (.val v)], ?_, ?_⟩
        · rw [es]
          cases s5 <;> cases s6 <;> rfl
        · obtain ⟨s, b, rfl, f1, _⟩ := mem_str hm hu
          obtain ⟨s', b', rfl, f2, _⟩ := mem_str hm hv
          have ev2 : (mB (mBin dNe (mBin dIx (mVar 5) (mC (.int 0))) (mBin dIx (mVar 6) (mC (.int 0))))) [some (.own true dk3), some (.val (.list mem)), some (.val (.int (k : Nat))), some (.own false fs), some (.val t), some (.val (.tuple [.str s, b])), some (.val (.tuple [.str s', b']))] =
              some (!(s == s'), [some (.own true dk3), some (.val (.list mem)), some (.val (.int (k : Nat))), some (.own false fs), some (.val t), some (.val (.tuple [.str s, b])), some (.val (.tuple [.str s', b']))]) := by
            have := (ne_strs f1 f2).1
            simp [this]
          refine es_If ⟨_, _, ev2, ?_⟩
          cases z : (s == s') with
          | true => exact iteF (es_Skip ⟨rfl, dk3, fs, some t, some (.tuple [.str s, b]), some (.tuple [.str s', b']), rfl, hd3.mono (by omega), by omega, hfa⟩)
          | false =>
            refine iteT (es_Drop (en_Append 3 (b0 := false) (dd := fs) rfl (en_Tup (en_Cons (en_Var 5 rfl (en_Cons (en_Var 6 rfl (en_Nil ⟨by simp, false, fs, rfl, by omega, rfl, ?_⟩))))))))
            refine ⟨dk3, fs ++ [.tuple [.tuple [.str s, b], .tuple [.str s', b']]], some t, some (.tuple [.str s, b]), some (.tuple [.str s', b']), rfl, hd3.mono (by omega), ?_, mem_app hfa ⟨_, _, rfl, hu, hv⟩⟩
            rw [List.length_append, List.length_singleton]
            omega
    · rintro e ⟨dk, fs, s4, s5, s6, rfl, hdk, hfl, hfa⟩
      rw [rangeD_len] at hfl hdk
      obtain ⟨out, o1, o2, o3, o4⟩ := sortset_ok (c := .list fs) rfl (pairs_set hm hfa (by omega))
      refine es_Ret (en_CB (en_Cons (en_New (en_SortSet (en_Froz 3 rfl ⟨out, o1, en_Nil ⟨.tuple out, rfl, dk, rfl, _, rfl, out, rfl, fun d hd => hfa d ((o3 d).mp hd), by omega, hdk.mono (by omega)⟩⟩)))))
end PB

namespace PB
open PySem PySem.Spec PyProof.Rows L2
open PySem.W (alike alikeAll dataLt AllAlike)
theorem drH_inv {x : D} (h : drH x = true) : ∃ s cs rs, x = .tuple [.str s, .tuple [.tuple cs, .tuple rs]] ∧ hsH x = true ∧ 1 ≤ cs.length ∧ ∀ c ∈ cs, name c = true := by
  unfold drH at h
  split at h
  · simp only [Bool.and_eq_true, decide_eq_true_eq, List.all_eq_true] at h
    exact ⟨_, _, _, rfl, h.1.1, h.1.2, h.2⟩
  · cases h
section
variable {fs : List D}
theorem Drawn.sh (h : Drawn fs) : ∀ x ∈ fs, hsH x = true := fun x hx => by
  obtain ⟨_, _, _, _, q, _⟩ := drH_inv (h.all x hx)
  exact q
theorem Drawn.fins (h : Drawn fs) : ∀ x ∈ fs, fine 9 5 x = true := by
  obtain ⟨m, e, _, f⟩ := fine_tup h.fin
  cases e
  exact f
theorem Drawn.cols (h : Drawn fs) : MemOk (colsL fs) := by
  refine ⟨.inl fun m hm => ?_, cols_fine h.fins (by decide) h.sh⟩
  obtain ⟨x, hx, hm⟩ := List.mem_flatMap.mp hm
  obtain ⟨s, cs, rs, rfl, _, _, nm⟩ := drH_inv (h.all x hx)
  obtain ⟨c, hc, rfl⟩ := List.mem_map.mp hm
  have hc' := nm c hc
  have sc := name_str hc'
  cases c <;> cases sc
  exact ⟨s, _, rfl, hc'⟩
theorem Drawn.rows (h : Drawn fs) : MemOk (rowsL fs) := rows_ok h.fins (by decide) h.sh
theorem fine9 {W n : Nat} {d : D} (h : fine W n d = true) (hs : isStr d = true ∨ whole d = true) : fine W 0 d = true := by
  cases d with
  | str s =>
    rw [fine_strE] at h ⊢
    exact h
  | int i =>
    have : i.natAbs ≤ 10 ^ 31 + W := by cases n <;> simpa [fine] using h
    simp [fine]
    omega
  | _ => rcases hs with z | z <;> cases z
theorem Drawn.cols9 (h : Drawn fs) : ∀ m ∈ colsL fs, fine 9 1 m = true := fun m hm => by
  obtain ⟨x, hx, hm⟩ := List.mem_flatMap.mp hm
  obtain ⟨s, cs, rs, rfl, _, _, h3, h4⟩ := hsH_inv (h.sh x hx)
  obtain ⟨k, f1, f2, f3⟩ := parts_fine (h.fins _ hx)
  obtain ⟨c, hc, rfl⟩ := List.mem_map.mp hm
  exact fine2 (by decide) (fine9 f3 (.inl rfl)) (fine9 (f1 c hc) (.inl (h3 c hc)))
theorem Drawn.rows9 (h : Drawn fs) : ∀ m ∈ rowsL fs, fine 9 1 m = true := fun m hm => by
  obtain ⟨x, hx, hm⟩ := List.mem_flatMap.mp hm
  obtain ⟨s, cs, rs, rfl, _, _, h3, h4⟩ := hsH_inv (h.sh x hx)
  obtain ⟨k, f1, f2, f3⟩ := parts_fine (h.fins _ hx)
  obtain ⟨r, hr, rfl⟩ := List.mem_map.mp hm
  obtain ⟨hp, hw⟩ := h4 r hr
  obtain ⟨a, b, rfl⟩ := pair_inv hp
  obtain ⟨k', rfl, _, f4⟩ := fine_tup (f2 _ hr)
  exact fine2 (by decide) (fine9 f3 (.inl rfl)) (fine9 (f4 a List.mem_cons_self) (.inr hw))
theorem Drawn.pos (h : Drawn fs) : 0 < (colsL fs).length := by
  have := h.one
  cases fs with
  | nil => simp at this
  | cons x r =>
    obtain ⟨s, cs, rs, rfl, _, q, _⟩ := drH_inv (h.all x List.mem_cons_self)
    show 0 < (colH _ ++ r.flatMap colH).length
    rw [List.length_append]
    have : (colH (.tuple [.str s, .tuple [.tuple cs, .tuple rs]])).length = cs.length := by simp [colH]
    omega
theorem Drawn.len (h : Drawn fs) : (colsL fs).length ≤ 20 := by
  have := colsL_len h.sh
  have := h.four
  omega
theorem Drawn.rlen (h : Drawn fs) : (rowsL fs).length ≤ 32 := by
  have := rowsL_len h.sh
  have := h.four
  omega
end
theorem cut_sub {l : List D} {lo hi : Option Int} {p : D → Prop} (h : ∀ d ∈ l, p d) : ∀ d ∈ cutD l lo hi, p d := fun d hd => h d (cut_mem hd)
theorem cut_most (l : List D) (n : Nat) : (cutD l none (some (n : Nat))).length ≤ n := by
  unfold cutD
  rw [HT.sIx_none, HT.sIx_nat, List.length_take]
  omega
theorem likes_ok {B : Nat} {ds0 fs : List D} {odd : Bool} (h : DOk B ds0) (hB : B ≤ 800000000) (hf : Drawn fs) : ∃ out ds1, f_law_likes ds0 [.tuple fs, .bool odd] = some (.val (.tuple out), ds1) ∧ (∀ d ∈ out, PairOf (colsL fs) d) ∧ out.length ≤ 12 ∧ DOk (B + 1000) ds1 := by
  have := runK_ens (n := 7) (M := M_law_likes) (ds0 := ds0) (ds := [.tuple fs, .bool odd]) (R := fun r ds1 => ∃ d, r = .val (.tuple d) ∧ (∀ x ∈ d, PairOf (colsL fs) x) ∧ d.length ≤ 12 ∧ DOk (B + 1000) ds1) ?_
  · obtain ⟨r, ds1, q1, d, rfl, q2, q3, q4⟩ := this
    exact ⟨d, ds1, q1, q2, q3, q4⟩
  · unfold M_law_likes
    have mc := hf.cols
    have hl := hf.len
    have ec := e_law_columns_of hf.sh hf.four
    refine es_Seq (es_Asg (en_Call (en_Cons (en_Var 1 rfl (en_Nil ⟨rfl, _, ec, _, rfl, ?_⟩)))))
    refine es_Seq (es_Own 4 (en_Sz (en_Nil ⟨by simp, by simp [startK], rfl, ?_⟩)))
    show Ens (sSeq _ _) [some (.own true ds0), some (.val (.tuple fs)), some (.val (.bool odd)), some (.val (.list (colsL fs))), some (.own false []), none, none] _
    refine es_Seq (es_For (en_It (en_Var 3 rfl ⟨colsL fs, rfl, ?_⟩)))
    refine ⟨fun i e => ∃ (dk xs : List D) (s5 s6 : Option D), e = [some (.own true dk), some (.val (.tuple fs)), some (.val (.bool odd)), some (.val (.list (colsL fs))), some (.own false xs), slv s5, slv s6] ∧ DOk (B + 20 * i) dk ∧ xs.length ≤ 20 * i ∧ ∀ d ∈ xs, PairOf (colsL fs) d, ⟨ds0, [], none, none, rfl, h.mono (by omega), Nat.le_refl _, fun _ h => nomatch h⟩, ?_, ?_⟩
    · rintro i x e hi ⟨dk, xs, s5, s6, rfl, hdk, hxl, hxa⟩
      have hx := List.mem_of_getElem? hi
      have hi20 : i < 20 := by
        have := (List.getElem?_eq_some_iff.mp hi).1
        omega
      refine ⟨[some (.own true dk), some (.val (.tuple fs)), some (.val (.bool odd)), some (.val (.list (colsL fs))), some (.own false xs), some (.val x), slv s6], by cases s5 <;> rfl, ?_⟩
      refine es_For (en_It (en_Var 3 rfl ⟨colsL fs, rfl, ?_⟩))
      refine ⟨fun j e => ∃ (dk ys : List D) (s6 : Option D), e = [some (.own true dk), some (.val (.tuple fs)), some (.val (.bool odd)), some (.val (.list (colsL fs))), some (.own false ys), some (.val x), slv s6] ∧ DOk (B + 20 * i + j) dk ∧ ys.length ≤ 20 * i + j ∧ ∀ d ∈ ys, PairOf (colsL fs) d, ⟨dk, xs, s6, rfl, hdk, hxl, hxa⟩, ?_, ?_⟩
      · rintro j y e hj ⟨dk, ys, s6, rfl, hdk, hyl, hya⟩
        have hy := List.mem_of_getElem? hj
        have hj20 : j < 20 := by
          have := (List.getElem?_eq_some_iff.mp hj).1
          omega
        obtain ⟨s, b, rfl, f1, f2⟩ := mem_str mc hx
        obtain ⟨s', b', rfl, f3, f4⟩ := mem_str mc hy
        obtain ⟨t, rfl⟩ : ∃ t, b = .str t := by
          rcases mc.kind with k | k
          · obtain ⟨u, v, e, _⟩ := k _ hx
            cases e
            exact ⟨_, rfl⟩
          · exfalso
            rcases hf.cols.kind with k' | k'
            · obtain ⟨u, v, e, _⟩ := k' _ hx
              obtain ⟨u', v', e'⟩ := k _ hx
              cases e
              cases e'
            · obtain ⟨z, hz, hm⟩ := List.mem_flatMap.mp hx
              obtain ⟨w, cs, rs, rfl, _, _, nm⟩ := drH_inv (hf.all z hz)
              obtain ⟨c, hc, e⟩ := List.mem_map.mp hm
              obtain ⟨u', v', e'⟩ := k _ hx
              have hc' := name_str (nm c hc)
              cases c <;> cases hc'
              cases e
              cases e'
        obtain ⟨t', rfl⟩ : ∃ t, b' = .str t := by
          obtain ⟨z, hz, hm⟩ := List.mem_flatMap.mp hy
          obtain ⟨w, cs, rs, rfl, _, _, nm⟩ := drH_inv (hf.all z hz)
          obtain ⟨c, hc, e⟩ := List.mem_map.mp hm
          have hc' := name_str (nm c hc)
          cases c <;> cases hc'
          cases e
          exact ⟨_, rfl⟩
        refine ⟨[some (.own true dk), some (.val (.tuple fs)), some (.val (.bool odd)), some (.val (.list (colsL fs))), some (.own false ys), some (.val (.tuple [.str s, .str t])), some (.val (.tuple [.str s', .str t']))], by cases s6 <;> rfl, ?_⟩
        have skip : ∀ dk', DOk (B + 20 * i + j + 1) dk' → Ens sSkip [some (.own true dk'), some (.val (.tuple fs)), some (.val (.bool odd)), some (.val (.list (colsL fs))), some (.own false ys), some (.val (.tuple [.str s, .str t])), some (.val (.tuple [.str s', .str t']))] (fun o e => o = .next ∧ ∃ (dk ys : List D) (s6 : Option D), e = [some (.own true dk), some (.val (.tuple fs)), some (.val (.bool odd)), some (.val (.list (colsL fs))), some (.own false ys), some (.val (.tuple [.str s, .str t])), slv s6] ∧ DOk (B + 20 * i + (j + 1)) dk ∧ ys.length ≤ 20 * i + (j + 1) ∧ ∀ d ∈ ys, PairOf (colsL fs) d) :=
          fun dk' hd' => es_Skip ⟨rfl, dk', ys, some (.tuple [.str s', .str t']), rfl, hd'.mono (by omega), by omega, hya⟩
        have ev1 : (mB (mBin dLt (mBin dIx (mVar 5) (mC (.int 0))) (mBin dIx (mVar 6) (mC (.int 0))))) [some (.own true dk), some (.val (.tuple fs)), some (.val (.bool odd)), some (.val (.list (colsL fs))), some (.own false ys), some (.val (.tuple [.str s, .str t])), some (.val (.tuple [.str s', .str t']))] = some (sLt s s', [some (.own true dk), some (.val (.tuple fs)), some (.val (.bool odd)), some (.val (.list (colsL fs))), some (.own false ys), some (.val (.tuple [.str s, .str t])), some (.val (.tuple [.str s', .str t']))]) := by simp
        have ev2 : (mB (mBin dEq (mBin dIx (mVar 5) (mC (.int 1))) (mBin dIx (mVar 6) (mC (.int 1))))) [some (.own true dk), some (.val (.tuple fs)), some (.val (.bool odd)), some (.val (.list (colsL fs))), some (.own false ys), some (.val (.tuple [.str s, .str t])), some (.val (.tuple [.str s', .str t']))] = some (t == t', [some (.own true dk), some (.val (.tuple fs)), some (.val (.bool odd)), some (.val (.list (colsL fs))), some (.own false ys), some (.val (.tuple [.str s, .str t])), some (.val (.tuple [.str s', .str t']))]) := by
          have := (ne_strs f2 f4).2
          simp [this]
        refine es_If (en_AndT ⟨_, _, ev1, ?_⟩)
        cases z1 : sLt s s' with
        | false => exact iteF (iteF (skip dk (hdk.mono (by omega))))
        | true =>
          refine iteT (en_AndT ⟨_, _, ev2, ?_⟩)
          cases z2 : (t == t') with
          | false => exact iteF (iteF (skip dk (hdk.mono (by omega))))
          | true =>
            refine iteT (en_B (en_Bin (en_pick 0 (dd := dk) (b0 := true) rfl hdk (by omega) (k := 4) (by decide) (by decide) rfl fun r2 dk2 _ _ hd2 => en_C ⟨.bool (decide ((0 : Int) < r2)), rfl, decide ((0 : Int) < r2), rfl, ?_⟩)))
            cases decide ((0 : Int) < r2) with
            | false => exact iteF (skip dk2 (hd2.mono (by omega)))
            | true =>
              refine iteT (es_Drop (en_Append 4 (b0 := false) (dd := ys) rfl (en_Tup (en_Cons (en_Var 5 rfl (en_Cons (en_Var 6 rfl (en_Nil ⟨by simp, false, ys, rfl, by omega, rfl, ?_⟩))))))))
              refine ⟨dk2, ys ++ [.tuple [.tuple [.str s, .str t], .tuple [.str s', .str t']]], some (.tuple [.str s', .str t']), rfl, hd2.mono (by omega), ?_, mem_app hya ⟨_, _, rfl, hx, hy⟩⟩
              rw [List.length_append, List.length_singleton]
              omega
      · rintro e ⟨dk, ys, s6, rfl, hdk, hyl, hya⟩
        exact ⟨rfl, dk, ys, some x, s6, rfl, hdk.mono (by omega), by omega, hya⟩
    · rintro e ⟨dk, xs, s5, s6, rfl, hdk, hxl, hxa⟩
      have hdk : DOk (B + 400) dk := hdk.mono (by omega)
      have fin : ∀ (dk' zs : List D) (s4 : Sl), (s4 = .own false zs ∨ s4 = .val (.list zs)) → DOk (B + 430) dk' → (∀ d ∈ zs, PairOf (colsL fs) d) → Ens (sRet (mCB fTuple (mCons (mNew (mSortSet (mSl (mVar 4) mNoPart (mPart (mC (.int 12)))))) mNil))) [some (.own true dk'), some (.val (.tuple fs)), some (.val (.bool odd)), some (.val (.list (colsL fs))), some s4, slv s5, slv s6] (fun o e => ∃ ds1, e[0]? = some (some (.own true ds1)) ∧ ∃ r, o = .ret r ∧ ∃ d, r = .val (.tuple d) ∧ (∀ x ∈ d, PairOf (colsL fs) x) ∧ d.length ≤ 12 ∧ DOk (B + 1000) ds1) := by
        intro dk' zs s4 h4 hd' hz
        have hc : (cutD zs none (some 12)).length ≤ 12 := cut_most zs 12
        obtain ⟨out, o1, o2, o3, o4⟩ := sortset_ok (c := .list (cutD zs none (some 12))) rfl (pairs_set mc (cut_sub hz) (by omega))
        have last : ∀ {e : Sg}, e[0]? = some (some (.own true dk')) → ∃ ds1, e[0]? = some (some (.own true ds1)) ∧ ∃ r, (Out.ret (.val (.tuple out))) = .ret r ∧ ∃ d, r = .val (.tuple d) ∧ (∀ x ∈ d, PairOf (colsL fs) x) ∧ d.length ≤ 12 ∧ DOk (B + 1000) ds1 :=
          fun q => ⟨dk', q, _, rfl, out, rfl, fun d hd => hz d (cut_mem ((o3 d).mp hd)), by omega, hd'.mono (by omega)⟩
        rcases h4 with rfl | rfl
        · exact es_Ret (en_CB (en_Cons (en_New (en_SortSet (en_Sl (en_Froz 4 rfl (en_NoPart (en_Part (en_C ⟨12, rfl, _, rfl, out, o1, en_Nil ⟨.tuple out, rfl, last rfl⟩⟩)))))))))
        · exact es_Ret (en_CB (en_Cons (en_New (en_SortSet (en_Sl (en_Var 4 rfl (en_NoPart (en_Part (en_C ⟨12, rfl, _, rfl, out, o1, en_Nil ⟨.tuple out, rfl, last rfl⟩⟩)))))))))
      refine es_Seq (es_If (en_Tru (en_Var 2 rfl ⟨odd, rfl, ?_⟩)))
      cases odd with
      | false => exact iteF (es_Skip (fin dk xs _ (.inl rfl) (hdk.mono (by omega)) hxa))
      | true =>
        obtain ⟨ps, dk2, p1, p2, p3, p4⟩ := pairs_ok (k := 4) hdk (by omega) mc (by omega) (by decide)
        have hc : (cutD xs none (some 8)).length ≤ 8 := cut_most xs 8
        have hz : szOk ((cutD xs none (some 8)).length + ps.length) = true := decide_eq_true (by omega)
        refine iteT (es_Asg (en_Bin (en_Sl (en_Froz 4 rfl (en_NoPart (en_Part (en_C ⟨8, rfl, _, rfl, en_New (en_ListOf (en_CallK 0 (dd := dk) (b0 := true) rfl (en_Cons (en_Var 3 rfl (en_Cons (en_C (en_Nil ⟨rfl, true, dk, _, dk2, rfl, p1, ps, rfl, ?_⟩)))))))⟩)))))))
        refine ⟨.list (cutD xs none (some 8) ++ ps), by simp [dAdd, hz], _, rfl, ?_⟩
        refine fin dk2 (cutD xs none (some 8) ++ ps) _ (.inr rfl) (p4.mono (by omega)) fun d hd => ?_
        rcases List.mem_append.mp hd with q | q
        · exact hxa d (cut_mem q)
        · exact p2 d q
end PB

namespace PB
open PySem PySem.Spec PyProof.Rows L2
open PySem.W (alike alikeAll dataLt AllAlike)
def KeyOf (mem : List D) (d : D) : Prop := ∃ xs, d = .tuple xs ∧ (∀ x ∈ xs, x ∈ mem) ∧ 1 ≤ xs.length ∧ xs.length ≤ 2
theorem keys_set {mem ds : List D} (h : MemOk mem) (hd : ∀ d ∈ ds, KeyOf mem d) (hl : ds.length < 64) : SetOk ds := by
  refine set_tuples h (fun d hx => ?_) (fun d hx => ?_) hl
  · obtain ⟨xs, rfl, h1, _⟩ := hd d hx
    exact ⟨xs, rfl, h1⟩
  · obtain ⟨xs, rfl, _, h2, _⟩ := hd d hx
    cases xs with
    | nil => simp at h2
    | cons _ _ => rfl
/-- a drawn book -/
structure Book (b : D) (fs : List D) : Prop where
  ex : ∃ l k t c, b = .tuple [.tuple fs, l, k, t, c] ∧ fine 20 6 l = true ∧ fine 20 6 k = true ∧ fine 20 6 t = true ∧ fine 20 6 c = true ∧ isTup l = true ∧ isTup k = true ∧ isTup t = true ∧ isTup c = true
  dr : Drawn fs
theorem fine_pairs {mem out : List D} (hm : ∀ m ∈ mem, fine 9 1 m = true) (h : ∀ d ∈ out, PairOf mem d) (hl : out.length ≤ 12) : fine 20 6 (.tuple out) = true := by
  refine tw hl 20 5 (by decide) fun d hd => ?_
  obtain ⟨x, y, rfl, h1, h2⟩ := h d hd
  exact fine2 (n := 4) (by decide) (fine_mono (by decide) (by decide) (hm x h1)) (fine_mono (by decide) (by decide) (hm y h2))
theorem fine_keys {mem out : List D} (hm : ∀ m ∈ mem, fine 9 1 m = true) (h : ∀ d ∈ out, KeyOf mem d) (hl : out.length ≤ 2) : fine 20 6 (.tuple out) = true := by
  refine tw hl 20 5 (by decide) fun d hd => ?_
  obtain ⟨xs, rfl, h1, _, h3⟩ := h d hd
  exact tw h3 20 4 (by decide) fun x hx => fine_mono (by decide) (by decide) (hm x (h1 x hx))
end PB

namespace PB
open PySem PySem.Spec PyProof.Rows L2
open PySem.W (alike alikeAll dataLt AllAlike)
/-! ### what calls a column -/
def callC (mem : List D) : D → Bool
  | .tuple [a, b] => isIn (.tuple [a, b]) mem
  | _ => false
theorem callC_no {mem : List D} {d : D} (h : pair d = false) : callC mem d = false := by
  unfold callC
  split
  · cases h
  · rfl
def colT (a b : D) : D → Bool
  | .tuple [s, .tuple [.tuple cs, _]] => PyData.eqv s a && isIn b cs
  | _ => false
theorem isIn_cols (a b : D) : ∀ hs : List D, (∀ x ∈ hs, hsH x = true) → isIn (.tuple [a, b]) (colsL hs) = hs.any (colT a b)
  | [], _ => rfl
  | x :: r, h => by
    obtain ⟨s, cs, rs, rfl, _⟩ := hsH_inv (h x List.mem_cons_self)
    have ih := isIn_cols a b r fun y hy => h y (List.mem_cons_of_mem _ hy)
    rw [List.any_cons, ← ih]
    show ((colH (.tuple [.str s, .tuple [.tuple cs, .tuple rs]]) ++ colsL r).any fun z => PyData.eqv z (.tuple [a, b])) = _
    rw [List.any_append]
    congr 1
    show ((cs.map fun c => PyData.tuple [.str s, c]).any fun z => PyData.eqv z (.tuple [a, b])) = (PyData.eqv (.str s) a && cs.any fun z => PyData.eqv z b)
    rw [List.any_map]
    cases q : PyData.eqv (.str s) a with
    | true =>
      rw [Bool.true_and]
      congr 1
      funext c
      show PyData.eqv (.tuple [.str s, c]) (.tuple [a, b]) = _
      rw [eqv_pair, q, Bool.true_and]
    | false =>
      rw [Bool.false_and, List.any_eq_false]
      intro c _
      show ¬ PyData.eqv (.tuple [.str s, c]) (.tuple [a, b]) = true
      rw [eqv_pair, q]
      simp
theorem fine_cols {W n : Nat} {s : Str} {cs rs : List D} (h : fine W n (.tuple [.str s, .tuple [.tuple cs, .tuple rs]]) = true) : ∃ m, m + 2 ≤ n ∧ fine W m (.tuple cs) = true ∧ fine W m (.str s) = true := by
  obtain ⟨m, rfl, _, f⟩ := fine_tup h
  obtain ⟨k, rfl, _, g⟩ := fine_tup (f _ (by simp : PyData.tuple [.tuple cs, .tuple rs] ∈ _))
  have fs := f (.str s) (by simp)
  refine ⟨k, Nat.le_refl _, g _ (by simp), ?_⟩
  rw [fine_strE] at fs ⊢
  exact fs
theorem lc_call {W n V k : Nat} {hs : List D} {d a b : D} (h : ∀ x ∈ hs, hsH x = true) (hf : ∀ x ∈ hs, fine V k x = true) (hk : k ≤ 60) (hn : n ≤ 60) (ha : fine W n a = true) (hb : fine W n b = true) (hl : hs.length ≤ 1000) :
    mLc (mIt (mVar 0)) (bTup 2 (bCons (bName 4) (bCons (bTup 2 (bCons (bName 5) (bCons (bName 6) bNil))) bNil))) mYes (mAndV (mBin dEq (mVar 4) (mVar 2)) (mBin dIn (mVar 3) (mVar 5))) [4, 5, 6] [some (.val (.tuple hs)), some (.val d), some (.val a), some (.val b), none, none, none] =
      some (hs.map fun x => .bool (colT a b x), [some (.val (.tuple hs)), some (.val d), some (.val a), some (.val b), none, none, none]) := by
  rw [lc_pure (items := hs) (fun _ => true) (fun x => .bool (colT a b x)) (fun x => match x with | .tuple [s, .tuple [c, r]] => [some (.val (.tuple hs)), some (.val d), some (.val a), some (.val b), some (.val s), some (.val c), some (.val r)] | _ => [])
    [some (.val (.tuple hs)), some (.val d), some (.val a), some (.val b), none, none, none] rfl (by omega) rfl rfl (fun x hx => ?_) (fun x _ => rfl) (fun x hx _ => ?_) (fun x hx => ?_), filter_true]
  · obtain ⟨s, cs, rs, rfl, _⟩ := hsH_inv (h x hx)
    rfl
  · obtain ⟨s, cs, rs, rfl, _⟩ := hsH_inv (h x hx)
    obtain ⟨m, hm, f1, f2⟩ := fine_cols (hf _ hx)
    have s1 : SeqAt.shaped (.str s) = true := fine_shaped f2 (by omega)
    have s2 : SeqAt.shaped (.tuple cs) = true := fine_shaped f1 (by omega)
    have s3 := fine_shaped ha hn
    have s4 := fine_shaped hb hn
    have e1 : dEq (.str s) a = some (.bool (PyData.eqv (.str s) a)) := by simp [dEq, s1, s3]
    have e2 : dIn b (.tuple cs) = some (.bool (isIn b cs)) := by simp [dIn, s2, s4]
    cases q : PyData.eqv (.str s) a <;> simp [e1, e2, q, colT]
  · obtain ⟨s, cs, rs, rfl, _⟩ := hsH_inv (h x hx)
    rfl
theorem e_calls_column {W n V k : Nat} {hs : List D} {d : D} (h : ∀ x ∈ hs, hsH x = true) (hf : ∀ x ∈ hs, fine V k x = true) (hk : k ≤ 60) (hl : hs.length ≤ 1000) (hd : fine W n d = true) (hn : n ≤ 60) : f_calls_column [.tuple hs, d] = some (.val (.bool (callC (colsL hs) d))) := by
  have hp := e_is_pair (fine_noDict hd)
  cases q : pair d with
  | false => simp [f_calls_column, M_calls_column, runP_def, startE, hp, q, callC_no q]
  | true =>
    obtain ⟨a, b, rfl⟩ := pair_inv q
    obtain ⟨m, rfl, _, hm⟩ := fine_tup hd
    have ha := hm a (by simp)
    have hb := hm b (by simp)
    have lc := lc_call (d := .tuple [a, b]) h hf hk (by omega) ha hb hl
    have bt : bTup 2 (bCons (bName 2) (bCons (bName 3) bNil)) (.tuple [a, b]) [some (.val (.tuple hs)), some (.val (.tuple [a, b])), none, none, none, none, none] = some [some (.val (.tuple hs)), some (.val (.tuple [a, b])), some (.val a), some (.val b), none, none, none] := rfl
    simp [f_calls_column, M_calls_column, runP_def, startE, hp, q, bt, lc, fAny, bools_map, callC, isIn_cols a b hs h, List.any_map]
theorem in_colsB {mem : List D} (h : ColMem mem) {a b : D} (q : isIn (.tuple [a, b]) mem = true) : isStr b = true := by
  obtain ⟨m, hm, e⟩ := isIn_mem q
  obtain ⟨s, c, rfl, _⟩ := h m hm
  rw [eqv_pair, Bool.and_eq_true] at e
  rw [eqv_str e.2]
  rfl
theorem callC_B {mem : List D} (h : ColMem mem) (d : D) : callC mem d = callsB mem d := by
  cases p : pair d with
  | false => rw [callC_no p, callsB_no p]
  | true =>
    obtain ⟨a, b, rfl⟩ := pair_inv p
    show isIn (.tuple [a, b]) mem = ((isStr b || whole b) && isIn (.tuple [a, b]) mem)
    cases q : isIn (.tuple [a, b]) mem with
    | false => rw [Bool.and_false]
    | true => rw [in_colsB h q]; rfl
/-! ### what calls a row -/
def rowT (a b : D) : D → Bool
  | .tuple [s, .tuple [_, .tuple rs]] => PyData.eqv s a && rs.any fun r => PyData.eqv (fstD r) b
  | _ => false
theorem isIn_rows (a b : D) : ∀ hs : List D, (∀ x ∈ hs, hsH x = true) → isIn (.tuple [a, b]) (rowsL hs) = hs.any (rowT a b)
  | [], _ => rfl
  | x :: r, h => by
    obtain ⟨s, cs, rs, rfl, _, _, _, hr⟩ := hsH_inv (h x List.mem_cons_self)
    have ih := isIn_rows a b r fun y hy => h y (List.mem_cons_of_mem _ hy)
    rw [List.any_cons, ← ih]
    show ((rowH (.tuple [.str s, .tuple [.tuple cs, .tuple rs]]) ++ rowsL r).any fun z => PyData.eqv z (.tuple [a, b])) = _
    rw [List.any_append]
    congr 1
    show ((rs.map fun q => PyData.tuple [.str s, fstD q]).any fun z => PyData.eqv z (.tuple [a, b])) = (PyData.eqv (.str s) a && rs.any fun z => PyData.eqv (fstD z) b)
    rw [List.any_map]
    cases q : PyData.eqv (.str s) a with
    | true =>
      rw [Bool.true_and]
      congr 1
      funext c
      show PyData.eqv (.tuple [.str s, fstD c]) (.tuple [a, b]) = _
      rw [eqv_pair, q, Bool.true_and]
    | false =>
      rw [Bool.false_and, List.any_eq_false]
      intro c _
      show ¬ PyData.eqv (.tuple [.str s, fstD c]) (.tuple [a, b]) = true
      rw [eqv_pair, q]
      simp
theorem pairsL_rows : ∀ {rs : List D}, (∀ r ∈ rs, pair r = true ∧ whole (fstD r) = true) → ∃ kds, pairsL rs = some kds ∧ ∀ i : Int, (kds.any fun p => decide (p.1 = (.inl i : Key))) = rs.any fun r => PyData.eqv (fstD r) (.int i)
  | [], _ => ⟨[], rfl, fun _ => rfl⟩
  | r :: rs, h => by
    obtain ⟨kds, e1, e2⟩ := pairsL_rows fun q hq => h q (List.mem_cons_of_mem _ hq)
    obtain ⟨hp, hw⟩ := h r List.mem_cons_self
    obtain ⟨k, v, rfl⟩ := pair_inv hp
    have hk : whole k = true := hw
    obtain ⟨j, rfl⟩ : ∃ j, k = .int j := by cases k <;> first | exact ⟨_, rfl⟩ | cases hk
    refine ⟨(.inl j, v) :: kds, by simp [pairsL, leafK, e1], fun i => ?_⟩
    rw [List.any_cons, List.any_cons, e2 i]
    congr 1
    show decide ((Sum.inl j : Key) = .inl i) = PyData.eqv (.int j) (.int i)
    rw [key_ll, eqv_ints]
theorem any_put (k : Key) (acc : List (Key × D)) (k' : Key) (d : D) : ((putD acc k' d).any fun p => decide (p.1 = k)) = ((acc.any fun p => decide (p.1 = k)) || decide (k' = k)) := by
  unfold putD
  split
  · rename_i h
    have e : ((acc.map fun p => if p.1 = k' then (p.1, d) else p).any fun p => decide (p.1 = k)) = acc.any fun p => decide (p.1 = k) := by
      rw [List.any_map]
      congr 1
      funext p
      show decide ((if p.1 = k' then (p.1, d) else p).1 = k) = decide (p.1 = k)
      split <;> rfl
    rw [e]
    by_cases q : k' = k
    · subst q
      rw [h]
      simp
    · simp [q]
  · rw [List.any_append]
    simp
theorem any_merge (k : Key) : ∀ (more acc : List (Key × D)), ((mergeD acc more).any fun p => decide (p.1 = k)) = ((acc.any fun p => decide (p.1 = k)) || more.any fun p => decide (p.1 = k))
  | [], acc => by simp [mergeD]
  | p :: more, acc => by
    show ((mergeD (putD acc p.1 p.2) more).any fun p => decide (p.1 = k)) = _
    rw [any_merge k more, any_put, List.any_cons, Bool.or_assoc]
theorem hasK_out (k : Key) (l : List (Key × D)) : hasK k (outD l) = l.any fun p => decide (p.1 = k) := by
  unfold hasK outD
  rw [List.any_map]
  congr 1
  funext p
  show (match leafK (keyD p.1) with | some j => decide (j = k) | none => false) = _
  rw [leafK_key]
theorem allLeaf_out (l : List (Key × D)) : allLeaf (outD l) = true := by
  unfold allLeaf outD
  rw [List.all_map, List.all_eq_true]
  intro p _
  show (leafK (keyD p.1)).isSome = true
  rw [leafK_key]
  rfl
theorem in_dict_rows {rs : List D} (h : ∀ r ∈ rs, pair r = true ∧ whole (fstD r) = true) (i : Int) : ∃ dd, fDict [.tuple rs] = some dd ∧ dInDk false (.int i) dd = some (.bool (rs.any fun r => PyData.eqv (fstD r) (.int i))) := by
  obtain ⟨kds, e1, e2⟩ := pairsL_rows h
  refine ⟨.dict (outD (mergeD [] kds)), by simp [fDict, e1], ?_⟩
  unfold dInDk
  simp only [leafK]
  rw [if_pos (allLeaf_out _), hasK_out, any_merge, e2 i]
  simp
theorem lc_callR {W n V k : Nat} {hs : List D} {d a : D} {i : Int} (h : ∀ x ∈ hs, hsH x = true) (hf : ∀ x ∈ hs, fine V k x = true) (hk : k ≤ 60) (hn : n ≤ 60) (ha : fine W n a = true) (hl : hs.length ≤ 1000) :
    mLc (mIt (mVar 0)) (bTup 2 (bCons (bName 4) (bCons (bTup 2 (bCons (bName 5) (bCons (bName 6) bNil))) bNil))) mYes (mAndV (mBin dEq (mVar 4) (mVar 2)) (mBin (dInDk false) (mVar 3) (mCB fDict (mCons (mVar 6) mNil)))) [4, 5, 6] [some (.val (.tuple hs)), some (.val d), some (.val a), some (.val (.int i)), none, none, none] =
      some (hs.map fun x => .bool (rowT a (.int i) x), [some (.val (.tuple hs)), some (.val d), some (.val a), some (.val (.int i)), none, none, none]) := by
  rw [lc_pure (items := hs) (fun _ => true) (fun x => .bool (rowT a (.int i) x)) (fun x => match x with | .tuple [s, .tuple [c, r]] => [some (.val (.tuple hs)), some (.val d), some (.val a), some (.val (.int i)), some (.val s), some (.val c), some (.val r)] | _ => [])
    [some (.val (.tuple hs)), some (.val d), some (.val a), some (.val (.int i)), none, none, none] rfl (by omega) rfl rfl (fun x hx => ?_) (fun x _ => rfl) (fun x hx _ => ?_) (fun x hx => ?_), filter_true]
  · obtain ⟨s, cs, rs, rfl, _⟩ := hsH_inv (h x hx)
    rfl
  · obtain ⟨s, cs, rs, rfl, _, _, _, hr⟩ := hsH_inv (h x hx)
    obtain ⟨m, hm, f1, f2⟩ := fine_cols (hf _ hx)
    have s1 : SeqAt.shaped (.str s) = true := fine_shaped f2 (by omega)
    have s3 := fine_shaped ha hn
    have e1 : dEq (.str s) a = some (.bool (PyData.eqv (.str s) a)) := by simp [dEq, s1, s3]
    obtain ⟨dd, e2, e3⟩ := in_dict_rows hr i
    cases q : PyData.eqv (.str s) a <;> simp [e1, e2, e3, q, rowT]
  · obtain ⟨s, cs, rs, rfl, _⟩ := hsH_inv (h x hx)
    rfl
theorem in_rowsB {mem : List D} (h : RowMem mem) {a b : D} (q : isIn (.tuple [a, b]) mem = true) (hs : isStr b = true) : False := by
  obtain ⟨m, hm, e⟩ := isIn_mem q
  obtain ⟨s, c, rfl⟩ := h m hm
  rw [eqv_pair, Bool.and_eq_true] at e
  cases b <;> cases hs
  rw [PyData.eqv] at e <;> simp_all
end PB

namespace PB
open PySem PySem.Spec PyProof.Rows L2
open PySem.W (alike alikeAll dataLt AllAlike)
@[simp] theorem isFnS_0 {x : Str} {r : Sg} : isFnS (some (.fn x) :: r) 0 x = true := by simp [isFnS]
@[simp] theorem ev_CallF {i n : Nat} {x : Str} {f : Fp} {m : ML} {e : Sg} : mCallF i x n f m e = if isFnS e i x = true then mCall n f m e else none := rfl
@[simp] theorem ev_CallG {n : Nat} {f : Fp} {m : ML} {e : Sg} : mCallG n f m e = (m e).bind fun r => if r.1.length + 1 = n then (f r.1).map fun x => (toD x, r.2) else none := rfl
@[simp] theorem ev_CallV {i n : Nat} {x : Str} {f : Fp} {m : ML} {e : Sg} : mCallV i x n f m e = if isFnS e i x = true then mCallG n f m e else none := rfl
theorem runF_def {n : Nat} {x : Str} {M : MS} {ds : List D} : runF n x M ds = match M (startF n x ds) with
  | some (.ret r, _) => some r
  | some (.next, _) => some (.val .none)
  | _ => none := rfl
/-- houses that are looked at -/
structure HsC (hs : List D) : Prop where
  sh : ∀ x ∈ hs, hsH x = true
  fin : ∀ x ∈ hs, fine 1000 60 x = true
  len : hs.length ≤ 4
  mc : MemOk (colsL hs)
  mr : MemOk (rowsL hs)
  col : ColMem (colsL hs)
theorem e_cc {W n : Nat} {hs : List D} {d : D} (h : HsC hs) (hd : fine W n d = true) (hn : n ≤ 60) : f_calls_column [.tuple hs, d] = some (.val (.bool (callsB (colsL hs) d))) := by
  rw [e_calls_column h.sh h.fin (by decide) (by have := h.len; omega) hd hn, callC_B h.col]
theorem e_is_link_cc {W n : Nat} {hs : List D} {d : D} (h : HsC hs) (hd : fine W n d = true) (hn : n ≤ 60) : f_is_link__calls_column [.tuple hs, d] = some (.val (.bool (linkB (colsL hs) d))) := by
  have hp := e_is_pair (fine_noDict hd)
  cases q : pair d with
  | false => simp [f_is_link__calls_column, M_is_link__calls_column, runF_def, startF, startE, hp, q, linkB_no q]
  | true =>
    obtain ⟨x, y, rfl⟩ := pair_inv q
    obtain ⟨m, rfl, _, hm⟩ := fine_tup hd
    have hx := e_cc h (hm x (by simp)) (by omega)
    have hy := e_cc h (hm y (by simp)) (by omega)
    have lc : mLc (mIt (mVar 2)) (bName 5) mYes (mCallF 0 "calls_column" 2 f_calls_column (mCons (mVar 1) (mCons (mVar 5) mNil))) [5] [some (.fn "calls_column"), some (.val (.tuple hs)), some (.val (.tuple [x, y])), none, none, none] = some ([x, y].map fun d => .bool (callsB (colsL hs) d), [some (.fn "calls_column"), some (.val (.tuple hs)), some (.val (.tuple [x, y])), none, none, none]) := by
      rw [lc_pure (items := [x, y]) (fun _ => true) (fun d => .bool (callsB (colsL hs) d)) (fun d => [some (.fn "calls_column"), some (.val (.tuple hs)), some (.val (.tuple [x, y])), none, none, some (.val d)]) [some (.fn "calls_column"), some (.val (.tuple hs)), some (.val (.tuple [x, y])), none, none, none] rfl (by simp) rfl rfl (fun _ _ => rfl) (fun _ _ => rfl) (fun d hd' _ => ?_) (fun _ _ => rfl), filter_true]
      have := e_cc h (hm d hd') (by omega)
      simp [this]
    have bn : bTup 2 (bCons (bName 3) (bCons (bName 4) bNil)) (.tuple [x, y]) [some (.fn "calls_column"), some (.val (.tuple hs)), some (.val (.tuple [x, y])), none, none, none] = some [some (.fn "calls_column"), some (.val (.tuple hs)), some (.val (.tuple [x, y])), some (.val x), some (.val y), none] := rfl
    cases cx : callsB (colsL hs) x with
    | false => simp [f_is_link__calls_column, M_is_link__calls_column, runF_def, startF, startE, hp, q, lc, fAll, bools, cx, linkB]
    | true =>
      cases cy : callsB (colsL hs) y with
      | false => simp [f_is_link__calls_column, M_is_link__calls_column, runF_def, startF, startE, hp, q, lc, fAll, bools, cx, cy, linkB]
      | true =>
        obtain ⟨s, b, rfl⟩ := mem_fst h.mc (callsB_mem h.mc cx)
        obtain ⟨s', b', rfl⟩ := mem_fst h.mc (callsB_mem h.mc cy)
        simp [f_is_link__calls_column, M_is_link__calls_column, runF_def, startF, startE, hp, q, lc, fAll, bools, cx, cy, linkB, bn, fstD, ltD_str]
theorem e_are_links_cc {W n : Nat} {hs : List D} {d : D} (h : HsC hs) (hd : fine W n d = true) (hn : n ≤ 60) : f_are_links__calls_column [.tuple hs, d] = some (.val (.bool (linksB (colsL hs) d))) := by
  have h1 : f_is_tuple [d, .int 0, .int 12] = _ := e_is_tuple (d := d) (lo := 0) (hi := 12) (fine_noDict hd)
  cases d with
  | tuple ds =>
    obtain ⟨m, rfl, hl, hm⟩ := fine_tup hd
    by_cases a : ds.length ≤ 12
    · have ht : tupN 0 12 (.tuple ds) = true := by simp [tupN, a]
      rw [ht] at h1
      have lc : mLc (mIt (mVar 2)) (bName 3) mYes (mCallV 0 "calls_column" 3 f_is_link__calls_column (mCons (mVar 1) (mCons (mVar 3) mNil))) [3] [some (.fn "calls_column"), some (.val (.tuple hs)), some (.val (.tuple ds)), none] = some (ds.map fun d => .bool (linkB (colsL hs) d), [some (.fn "calls_column"), some (.val (.tuple hs)), some (.val (.tuple ds)), none]) := by
        rw [lc_pure (items := ds) (fun _ => true) (fun d => .bool (linkB (colsL hs) d)) (fun d => [some (.fn "calls_column"), some (.val (.tuple hs)), some (.val (.tuple ds)), some (.val d)]) [some (.fn "calls_column"), some (.val (.tuple hs)), some (.val (.tuple ds)), none] rfl (by omega) rfl rfl (fun _ _ => rfl) (fun _ _ => rfl) (fun d hd' _ => ?_) (fun _ _ => rfl), filter_true]
        have := e_is_link_cc h (hm d hd') (by omega)
        simp [this]
      cases hal : ds.all (linkB (colsL hs)) with
      | true =>
        have hr := e_rises_t (ds := ds) (.inr (.inr (tuples_alike h.mc (links_tuples h.mc hal)))) (by omega)
        simp [f_are_links__calls_column, M_are_links__calls_column, runF_def, startF, startE, h1, lc, fAll, bools_map, List.all_map, hal, hr, linksB, a]
      | false => simp [f_are_links__calls_column, M_are_links__calls_column, runF_def, startF, startE, h1, lc, fAll, bools_map, List.all_map, hal, linksB, a]
    · have ht : tupN 0 12 (.tuple ds) = false := by
        simp [tupN]
        omega
      rw [ht] at h1
      simp [f_are_links__calls_column, M_are_links__calls_column, runF_def, startF, startE, h1, linksB, a]
  | dict k => cases fine_noDict hd
  | _ => simp [f_are_links__calls_column, M_are_links__calls_column, runF_def, startF, startE, h1, tupN, linksB]
theorem col_mem {hs : List D} (ho : ∀ x ∈ hs, house x = true) (sh : ∀ x ∈ hs, hsH x = true) : ColMem (colsL hs) := fun m hm => by
  obtain ⟨x, hx, hm⟩ := List.mem_flatMap.mp hm
  obtain ⟨s, cs, rs, rfl, nm⟩ := house_names (ho x hx)
  obtain ⟨c, hc, rfl⟩ := List.mem_map.mp hm
  have hc' := nm c hc
  have sc := name_str hc'
  cases c <;> cases sc
  exact ⟨s, _, rfl, hc'⟩
end PB

namespace PB
open PySem PySem.Spec PyProof.Rows L2
theorem sort_bool (b : Bool) : f_law_sort [.bool b] = some (.val (.int 1)) := by simp [f_law_sort, M_law_sort, runP_def, startE]
theorem same_bool (a b : Bool) (n : Nat) : f_law_same (n + 1) [.bool a, .bool b] = some (.val (.bool (a == b))) := by
  have e1 : dNe (.int 1) (.int 1) = some (.bool false) := by simp [dNe, shaped_int, eqv_ints]
  have e2 : dEq (.bool a) (.bool b) = some (.bool (a == b)) := by
    unfold dEq
    rw [shaped_bool, shaped_bool, PyData.eqv]
    rfl
  simp [f_law_same, M_law_same, runP_def, startE, sort_bool, e1, e2]
theorem en_spoilt {e : Sg} (i : Nat) {b0 : Bool} {dd : List D} {m : ML} {P : D → Sg → Prop} {B W : Nat} {d : D} (h0 : e[i]? = some (some (.own b0 dd))) (hd : DOk B dd) (hB : B ≤ 800000000) (hW : W ≤ 900) (hf : fine W 6 d = true) (hm : m e = some ([d], e))
    (h : ∀ (d' : D) (ds1 : List D), fine (W + 1) 6 d' = true → DOk (B + 14) ds1 → P d' (e.set i (some (.own b0 ds1)))) : Ens (mCallK i 2 (f_law_spoilt 20) m) e P := by
  obtain ⟨d', ds1, q1, q2, q3⟩ := spoilt_all 6 20 (by decide) (by decide) W B dd d hd (by omega) hW hf
  exact en_CallK i h0 ⟨[d], e, hm, rfl, b0, dd, _, ds1, h0, q1, h d' ds1 q2 q3⟩
theorem fine_cat {W n : Nat} {a b c : List D} (h : a.length + b.length + c.length ≤ W) (ha : ∀ d ∈ a, fine W n d = true) (hb : ∀ d ∈ b, fine W n d = true) (hc : ∀ d ∈ c, fine W n d = true) : fine W (n + 1) (.tuple (a ++ b ++ c)) = true := by
  refine fine_sq (tup := true) (by rw [List.length_append, List.length_append]; exact h) fun d hd => ?_
  rcases List.mem_append.mp hd with q | q
  · rcases List.mem_append.mp q with q | q
    · exact ha d q
    · exact hb d q
  · exact hc d q
/-- one part put in the place of another -/
theorem swap_ok {gl : List D} {part : D} {lo hi : Option Int} (h5 : gl.length = 5) : dAdd (.tuple (cutD gl none lo)) (.tuple [part]) = some (.tuple (cutD gl none lo ++ [part])) ∧ dAdd (.tuple (cutD gl none lo ++ [part])) (.tuple (cutD gl hi none)) = some (.tuple (cutD gl none lo ++ [part] ++ cutD gl hi none)) := by
  have a := cut_len gl none lo
  have b := cut_len gl hi none
  have z1 : szOk ((cutD gl none lo).length + [part].length) = true := decide_eq_true (by simp only [List.length_singleton]; omega)
  have z2 : szOk ((cutD gl none lo ++ [part]).length + (cutD gl hi none).length) = true := decide_eq_true (by simp only [List.length_append, List.length_singleton]; omega)
  exact ⟨by rw [dAdd, if_pos z1], by rw [dAdd, if_pos z2]⟩
theorem swap_fine {gl : List D} {part : D} {lo hi : Option Int} (h5 : gl.length = 5) (hf : ∀ d ∈ gl, fine 21 6 d = true) (hp : fine 21 6 part = true) : fine 21 7 (.tuple (cutD gl none lo ++ [part] ++ cutD gl hi none)) = true := by
  have a := cut_len gl none lo
  have b := cut_len gl hi none
  refine fine_cat (by simp only [List.length_singleton]; omega) (cut_sub hf) (fun d hd => ?_) (cut_sub hf)
  rw [List.mem_singleton.mp hd]
  exact hp
end PB

set_option maxHeartbeats 4000000
/-! k02: what hangs together. -/
namespace PB
open PySem PySem.Spec PyProof.Rows L2
open PySem.W (alike alikeAll dataLt dataLe keyToks keyToksAll AllAlike Sortable EachIs)
section
variable {α β : Type}
def Adj (P : List (α × α)) (a b : α) : Prop := (a, b) ∈ P ∨ (b, a) ∈ P
inductive Conn (P : List (α × α)) : α → α → Prop
  | refl (x : α) : Conn P x x
  | step {x y z : α} : Conn P x y → Adj P y z → Conn P x z
def Seen (P : List (α × α)) (k : α) : Prop := ∃ p ∈ P, k = p.1 ∨ k = p.2
variable {P Q : List (α × α)}
theorem Adj.symm {a b : α} (h : Adj P a b) : Adj P b a := Or.symm h
theorem Conn.one {a b : α} (h : Adj P a b) : Conn P a b := .step (.refl a) h
theorem Conn.trans {x y z : α} (h : Conn P x y) (k : Conn P y z) : Conn P x z := by
  induction k with
  | refl => exact h
  | step _ a ih => exact .step ih a
theorem Conn.symm {x y : α} (h : Conn P x y) : Conn P y x := by
  induction h with
  | refl => exact .refl _
  | step _ a ih => exact (Conn.one a.symm).trans ih
theorem Conn.mono (s : ∀ p ∈ P, p ∈ Q) {x y : α} (h : Conn P x y) : Conn Q x y := by
  induction h with
  | refl => exact .refl _
  | step _ a ih => exact .step ih (a.imp (s _) (s _))
theorem Adj.seen {a b : α} (h : Adj P a b) : Seen P a ∧ Seen P b := by
  rcases h with h | h
  · exact ⟨⟨_, h, .inl rfl⟩, ⟨_, h, .inr rfl⟩⟩
  · exact ⟨⟨_, h, .inr rfl⟩, ⟨_, h, .inl rfl⟩⟩
theorem Conn.seen {x y : α} (h : Conn P x y) : y = x ∨ (Seen P x ∧ Seen P y) := by
  induction h with
  | refl => exact .inl rfl
  | step _ a ih =>
    rcases ih with e | ⟨e, _⟩
    · subst e; exact .inr a.seen
    · exact .inr ⟨e, a.seen.2⟩
theorem Conn.unseen {x y : α} (n : ¬ Seen P x) : Conn P x y ↔ y = x := ⟨fun h => h.seen.elim id fun z => absurd z.1 n, fun e => e ▸ .refl _⟩
theorem conn_add {a b x y : α} : Conn (P ++ [(a, b)]) x y ↔ Conn P x y ∨ (Conn P x a ∧ Conn P b y) ∨ (Conn P x b ∧ Conn P a y) := by
  have up : ∀ {u v : α}, Conn P u v → Conn (P ++ [(a, b)]) u v := fun h => h.mono fun p hp => List.mem_append_left _ hp
  have ab : Conn (P ++ [(a, b)]) a b := .one (.inl (by simp))
  constructor
  · intro h
    induction h with
    | refl => exact .inl (.refl _)
    | @step y z _ ad ih =>
      have : Adj P y z ∨ (y = a ∧ z = b) ∨ (y = b ∧ z = a) := by
        rcases ad with q | q <;> rcases List.mem_append.mp q with q | q
        · exact .inl (.inl q)
        · simp only [List.mem_singleton, Prod.mk.injEq] at q
          exact .inr (.inl q)
        · exact .inl (.inr q)
        · simp only [List.mem_singleton, Prod.mk.injEq] at q
          exact .inr (.inr ⟨q.2, q.1⟩)
      rcases this with q | ⟨rfl, rfl⟩ | ⟨rfl, rfl⟩
      · rcases ih with h | ⟨h, k⟩ | ⟨h, k⟩
        · exact .inl (.step h q)
        · exact .inr (.inl ⟨h, .step k q⟩)
        · exact .inr (.inr ⟨h, .step k q⟩)
      · rcases ih with h | ⟨h, k⟩ | ⟨h, k⟩
        · exact .inr (.inl ⟨h, .refl _⟩)
        · exact .inr (.inl ⟨h, .refl _⟩)
        · exact .inl h
      · rcases ih with h | ⟨h, k⟩ | ⟨h, k⟩
        · exact .inr (.inr ⟨h, .refl _⟩)
        · exact .inl h
        · exact .inr (.inr ⟨h, .refl _⟩)
  · rintro (h | ⟨h, k⟩ | ⟨h, k⟩)
    · exact up h
    · exact ((up h).trans ab).trans (up k)
    · exact ((up h).trans ab.symm).trans (up k)
theorem conn_map {f : α → β} (inj : ∀ x y, f x = f y → x = y) {x : α} {z : β} : Conn (P.map fun p => (f p.1, f p.2)) (f x) z ↔ ∃ y, z = f y ∧ Conn P x y := by
  constructor
  · intro h
    induction h with
    | refl => exact ⟨x, rfl, .refl _⟩
    | @step y z _ ad ih =>
      obtain ⟨y', rfl, h⟩ := ih
      rcases ad with q | q
      · obtain ⟨p, hp, e⟩ := List.mem_map.mp q
        obtain ⟨e1, e2⟩ := Prod.mk.inj e
        have := inj _ _ e1
        subst this
        exact ⟨p.2, e2.symm, .step h (.inl hp)⟩
      · obtain ⟨p, hp, e⟩ := List.mem_map.mp q
        obtain ⟨e1, e2⟩ := Prod.mk.inj e
        have := inj _ _ e2
        subst this
        exact ⟨p.1, e1.symm, .step h (.inr hp)⟩
  · rintro ⟨y, rfl, h⟩
    induction h with
    | refl => exact .refl _
    | step _ ad ih =>
      refine .step ih (ad.imp (fun q => ?_) fun q => ?_)
      · exact List.mem_map.mpr ⟨_, q, rfl⟩
      · exact List.mem_map.mpr ⟨_, q, rfl⟩
theorem nodup_le [DecidableEq α] : ∀ {l m : List α}, l.Nodup → (∀ x ∈ l, x ∈ m) → l.length ≤ m.length
  | [], m, _, _ => Nat.zero_le _
  | a :: l, m, h, s => by
    have ha := s a (List.mem_cons_self ..)
    have h' := List.nodup_cons.mp h
    have := nodup_le (l := l) (m := m.erase a) h'.2 fun x hx => (List.mem_erase_of_ne (fun e => by rw [e] at hx; exact h'.1 hx)).mpr (s x (List.mem_cons_of_mem _ hx))
    rw [List.length_erase_of_mem ha] at this
    have := List.length_pos_of_mem ha
    rw [List.length_cons]
    omega
end
mutual
theorem eqv_nk : ∀ k j : Nk, PyData.eqv k.data j.data = NestedKey.beq k j
  | .none, .none => by simp [NestedKey.data, PyData.eqv, NestedKey.beq]
  | .none, .num _ => by simp [NestedKey.data, PyData.eqv, NestedKey.beq]
  | .none, .text _ => by simp [NestedKey.data, PyData.eqv, NestedKey.beq]
  | .none, .tup _ => by simp [NestedKey.data, PyData.eqv, NestedKey.beq]
  | .num _, .none => by simp [NestedKey.data, PyData.eqv, NestedKey.beq]
  | .num a, .num b => by
    rw [NestedKey.data, NestedKey.data, PyData.eqv, NestedKey.beq]
    by_cases e : a = b <;> simp [e]
  | .num _, .text _ => by simp [NestedKey.data, PyData.eqv, NestedKey.beq]
  | .num _, .tup _ => by simp [NestedKey.data, PyData.eqv, NestedKey.beq]
  | .text _, .none => by simp [NestedKey.data, PyData.eqv, NestedKey.beq]
  | .text _, .num _ => by simp [NestedKey.data, PyData.eqv, NestedKey.beq]
  | .text a, .text b => by
    rw [NestedKey.data, NestedKey.data, PyData.eqv, NestedKey.beq]
    by_cases e : a = b <;> simp [e]
  | .text _, .tup _ => by simp [NestedKey.data, PyData.eqv, NestedKey.beq]
  | .tup _, .none => by simp [NestedKey.data, PyData.eqv, NestedKey.beq]
  | .tup _, .num _ => by simp [NestedKey.data, PyData.eqv, NestedKey.beq]
  | .tup _, .text _ => by simp [NestedKey.data, PyData.eqv, NestedKey.beq]
  | .tup a, .tup b => by
    rw [NestedKey.data, NestedKey.data, PyData.eqv, NestedKey.beq]
    exact eqv_nks a b
theorem eqv_nks : ∀ k j : List Nk, PyData.eqvAll (NestedKey.datas k) (NestedKey.datas j) = NestedKey.beqAll k j
  | [], [] => by simp [NestedKey.datas, PyData.eqvAll, NestedKey.beqAll]
  | [], _ :: _ => by simp [NestedKey.datas, PyData.eqvAll, NestedKey.beqAll]
  | _ :: _, [] => by simp [NestedKey.datas, PyData.eqvAll, NestedKey.beqAll]
  | a :: k, b :: j => by
    rw [NestedKey.datas, NestedKey.datas, PyData.eqvAll, NestedKey.beqAll, eqv_nk a b, eqv_nks k j]
end
theorem beq_nk {k j : Nk} : NestedKey.beq k j = true ↔ k = j := ⟨NestedKey.eq_of_beq k j, fun e => e ▸ NestedKey.beq_self k⟩
theorem isIn_nk {k : Nk} {g : List Nk} : isIn k.data (grpD g) = true ↔ k ∈ g := by
  unfold isIn grpD
  rw [List.any_eq_true]
  constructor
  · rintro ⟨d, hd, e⟩
    obtain ⟨j, hj, rfl⟩ := List.mem_map.mp hd
    rw [eqv_nk, beq_nk] at e
    exact e ▸ hj
  · intro h
    exact ⟨_, List.mem_map.mpr ⟨k, h, rfl⟩, by rw [eqv_nk, beq_nk]⟩
end PB

set_option maxHeartbeats 4000000
/-! k02: the groups that the def linked keeps are what hangs together. -/
namespace PB
open PySem PySem.Spec PyProof.Rows L2
open PySem.W (alike alikeAll dataLt dataLe keyToks keyToksAll AllAlike Sortable EachIs)
theorem mAt_nil (k : Nk) : mAt [] k = none := rfl
theorem mAt_cons (x : Nk × Nat) (m : List (Nk × Nat)) (k : Nk) : mAt (x :: m) k = if x.1 = k then some x.2 else mAt m k := by
  unfold mAt
  rw [List.find?_cons]
  by_cases e : x.1 = k
  · simp [e]
  · simp [e]
theorem mAt_map (k : Nk) (i : Nat) (k' : Nk) : ∀ m : List (Nk × Nat), mAt (m.map fun x => if x.1 = k then (x.1, i) else x) k' = if k' = k then (mAt m k').map (fun _ => i) else mAt m k'
  | [] => by simp [mAt_nil]
  | x :: m => by
    rw [List.map_cons, mAt_cons, mAt_cons, mAt_map k i k' m]
    by_cases e : x.1 = k
    · rw [if_pos e]
      by_cases e1 : x.1 = k'
      · have : k' = k := e1 ▸ e
        simp [e1, this]
      · simp [e1]
    · rw [if_neg e]
      by_cases e1 : x.1 = k'
      · have : ¬ k' = k := fun z => e (e1.trans z)
        simp [e1, this]
      · simp [e1]
theorem mAt_app (k : Nk) (m n : List (Nk × Nat)) : mAt (m ++ n) k = (mAt m k).or (mAt n k) := by
  induction m with
  | nil => simp [mAt_nil]
  | cons x m ih =>
    rw [List.cons_append, mAt_cons, mAt_cons, ih]
    split <;> simp
theorem mAt_put (m : List (Nk × Nat)) (k : Nk) (i : Nat) (k' : Nk) : mAt (mPut m k i) k' = if k' = k then some i else mAt m k' := by
  unfold mPut
  split
  · rename_i h
    rw [mAt_map]
    split
    · rename_i e
      subst e
      obtain ⟨j, hj⟩ := Option.isSome_iff_exists.mp h
      rw [hj]; rfl
    · rfl
  · rename_i h
    rw [mAt_app, mAt_cons, mAt_nil]
    have hn : mAt m k = none := by simpa using h
    by_cases e : k' = k
    · subst e; simp [hn]
    · have : ¬ k = k' := fun z => e z.symm
      simp [e, this]
theorem mPut_old {m : List (Nk × Nat)} {k : Nk} {i : Nat} (h : (mAt m k).isSome = true) : (mPut m k i).length = m.length := by
  unfold mPut
  rw [if_pos h, List.length_map]
theorem fold_at (i : Nat) (k' : Nk) : ∀ (g : List Nk) (m : List (Nk × Nat)), mAt (g.foldl (fun m k => mPut m k i) m) k' = if k' ∈ g then some i else mAt m k'
  | [], m => by simp
  | k :: g, m => by
    rw [List.foldl_cons, fold_at i k' g, mAt_put]
    by_cases e : k' ∈ g
    · simp [e]
    · by_cases e1 : k' = k <;> simp [e, e1]
theorem fold_old (i : Nat) : ∀ (g : List Nk) (m : List (Nk × Nat)), (∀ k ∈ g, (mAt m k).isSome = true) → (g.foldl (fun m k => mPut m k i) m).length = m.length
  | [], m, _ => rfl
  | k :: g, m, h => by
    rw [List.foldl_cons, fold_old i g (mPut m k i) fun k' hk => by
      rw [mAt_put]
      split
      · rfl
      · exact h k' (List.mem_cons_of_mem _ hk), mPut_old (h k (List.mem_cons_self ..))]
def keysP (P : List (Nk × Nk)) : List Nk := P.flatMap fun p => [p.1, p.2]
theorem keysP_len (P : List (Nk × Nk)) : (keysP P).length = 2 * P.length := by
  induction P with
  | nil => rfl
  | cons p P ih =>
    show (p.1 :: p.2 :: keysP P).length = _
    rw [List.length_cons, List.length_cons, ih, List.length_cons]
    omega
theorem mem_keysP {P : List (Nk × Nk)} {k : Nk} : k ∈ keysP P ↔ Seen P k := by
  unfold keysP Seen
  rw [List.mem_flatMap]
  simp
structure LG (P : List (Nk × Nk)) (E : List Nk) (S : LS) : Prop where
  seen : ∀ k, (mAt S.m k).isSome = true ↔ Seen P k ∨ k ∈ E
  grp : ∀ k i, mAt S.m k = some i → ∃ g, S.gs[i]? = some g ∧ k ∈ g
  own : ∀ (i : Nat) (g : List Nk), S.gs[i]? = some g → ∀ x ∈ g, mAt S.m x = some i
  cls : ∀ (i : Nat) (g : List Nk), S.gs[i]? = some g → ∀ x ∈ g, ∀ y, y ∈ g ↔ Conn P x y
  nd : ∀ (i : Nat) (g : List Nk), S.gs[i]? = some g → g.Nodup
  b1 : S.m.length ≤ 2 * P.length + E.length
  b2 : S.gs.length ≤ P.length + E.length
theorem LG.nil : LG [] [] ⟨[], []⟩ where
  seen := fun k => by simp [mAt_nil, Seen]
  grp := fun k i h => by rw [mAt_nil] at h; cases h
  own := fun i g h => by simp at h
  cls := fun i g h => by simp at h
  nd := fun i g h => by simp at h
  b1 := by simp
  b2 := by simp
theorem LG.mem {P : List (Nk × Nk)} {E : List Nk} {S : LS} (h : LG P E S) {i : Nat} {g : List Nk} (hg : S.gs[i]? = some g) {x : Nk} (hx : x ∈ g) : Seen P x ∨ x ∈ E := (h.seen x).mp (by rw [h.own i g hg x hx]; rfl)
theorem LG.len {P : List (Nk × Nk)} {E : List Nk} {S : LS} (h : LG P E S) {i : Nat} {g : List Nk} (hg : S.gs[i]? = some g) : g.length ≤ 2 * P.length + E.length := by
  have := nodup_le (m := keysP P ++ E) (h.nd i g hg) fun x hx => List.mem_append.mpr ((h.mem hg hx).imp mem_keysP.mpr id)
  rw [List.length_append, keysP_len] at this
  exact this
theorem szOk_of {n : Nat} (h : n ≤ 1000) : szOk n = true := by
  unfold szOk
  simp
  omega
theorem here_inv {P : List (Nk × Nk)} {S : LS} (a : Nk) (h : LG P [] S) (hl : P.length ≤ 100) : ∃ i S1, lkHere S a = some (i, S1) ∧ LG P [a] S1 ∧ mAt S1.m a = some i := by
  unfold lkHere
  cases e : mAt S.m a with
  | some i =>
    refine ⟨i, S, rfl, ?_, e⟩
    refine ⟨fun k => ?_, h.grp, h.own, h.cls, h.nd, by have := h.b1; simp at *; omega, by have := h.b2; simp at *; omega⟩
    rw [h.seen k]
    constructor
    · rintro (q | q)
      · exact .inl q
      · cases q
    · rintro (q | q)
      · exact .inl q
      · simp only [List.mem_singleton] at q
        subst q
        exact (h.seen k).mp (by rw [e]; rfl)
  | none =>
    have b1 := h.b1
    have b2 := h.b2
    simp only [List.length_nil, Nat.add_zero] at b1 b2
    have na : ¬ Seen P a := fun q => by
      have := (h.seen a).mpr (.inl q)
      rw [e] at this
      cases this
    refine ⟨S.gs.length, ⟨S.gs ++ [[a]], mPut S.m a S.gs.length⟩, ?_, ?_, ?_⟩
    · simp only
      rw [if_pos ⟨szOk_of (by omega), szOk_of (by omega)⟩]
    · have at1 : ∀ (i : Nat) (g : List Nk), (S.gs ++ [[a]])[i]? = some g → (S.gs[i]? = some g) ∨ (i = S.gs.length ∧ g = [a]) := fun i g q => by
        rcases Nat.lt_or_ge i S.gs.length with q1 | q1
        · rw [List.getElem?_append_left q1] at q
          exact .inl q
        · rw [List.getElem?_append_right q1] at q
          have : i - S.gs.length < 1 := by
            have := (List.getElem?_eq_some_iff.mp q).1
            simpa using this
          have e0 : i - S.gs.length = 0 := by omega
          rw [e0] at q
          simp at q
          exact .inr ⟨by omega, q.symm⟩
      have ne : ∀ (i : Nat) (g : List Nk), S.gs[i]? = some g → a ∉ g := fun i g hg ha => by
        have := h.own i g hg a ha
        rw [e] at this
        cases this
      refine ⟨fun k => ?_, fun k i q => ?_, fun i g q x hx => ?_, fun i g q x hx y => ?_, fun i g q => ?_, ?_, ?_⟩
      · show (mAt (mPut S.m a S.gs.length) k).isSome = true ↔ _
        rw [mAt_put]
        by_cases e1 : k = a
        · simp [e1]
        · rw [if_neg e1, h.seen k]
          simp [e1]
      · replace q : mAt (mPut S.m a S.gs.length) k = some i := q
        rw [mAt_put] at q
        by_cases e1 : k = a
        · rw [if_pos e1] at q
          cases q
          exact ⟨[a], by simp, by simp [e1]⟩
        · rw [if_neg e1] at q
          obtain ⟨g, h1, h2⟩ := h.grp k i q
          exact ⟨g, by rw [List.getElem?_append_left (List.getElem?_eq_some_iff.mp h1).1]; exact h1, h2⟩
      · show mAt (mPut S.m a S.gs.length) x = some i
        rw [mAt_put]
        rcases at1 i g q with q | ⟨rfl, rfl⟩
        · rw [if_neg (fun z : x = a => ne i g q (z ▸ hx))]
          exact h.own i g q x hx
        · simp only [List.mem_singleton] at hx
          rw [if_pos hx]
      · rcases at1 i g q with q | ⟨rfl, rfl⟩
        · exact h.cls i g q x hx y
        · simp only [List.mem_singleton] at hx ⊢
          subst hx
          exact (Conn.unseen na).symm
      · rcases at1 i g q with q | ⟨rfl, rfl⟩
        · exact h.nd i g q
        · simp
      · have := mPut_len S.m a S.gs.length
        show (mPut S.m a S.gs.length).length ≤ _
        simp only [List.length_cons, List.length_nil]
        omega
      · show (S.gs ++ [[a]]).length ≤ _
        simp only [List.length_append, List.length_cons, List.length_nil]
        omega
    · show mAt (mPut S.m a S.gs.length) a = _
      rw [mAt_put, if_pos rfl]
end PB

set_option maxHeartbeats 4000000
/-! k02: the groups that the def linked keeps, a pair further. -/
namespace PB
open PySem PySem.Spec PyProof.Rows L2
open PySem.W (alike alikeAll dataLt dataLe keyToks keyToksAll AllAlike Sortable EachIs)
theorem seen_add {P : List (Nk × Nk)} {a b k : Nk} : Seen (P ++ [(a, b)]) k ↔ Seen P k ∨ k = a ∨ k = b := by
  unfold Seen
  constructor
  · rintro ⟨p, hp, q⟩
    rcases List.mem_append.mp hp with h | h
    · exact .inl ⟨p, h, q⟩
    · simp only [List.mem_singleton] at h
      subst h
      exact .inr q
  · rintro (⟨p, hp, q⟩ | q)
    · exact ⟨p, List.mem_append_left _ hp, q⟩
    · exact ⟨(a, b), by simp, q⟩
theorem get_set {α : Type} {l : List α} {i j : Nat} {x y : α} (h : (l.set i x)[j]? = some y) : (j = i ∧ y = x) ∨ (j ≠ i ∧ l[j]? = some y) := by
  rw [List.getElem?_set] at h
  by_cases e : i = j
  · rw [if_pos e] at h
    split at h
    · cases h; exact .inl ⟨e.symm, rfl⟩
    · cases h
  · rw [if_neg e] at h
    exact .inr ⟨fun z => e z.symm, h⟩
theorem set_same {α : Type} {l : List α} {i : Nat} {x : α} (h : i < l.length) : (l.set i x)[i]? = some x := by
  rw [List.getElem?_set, if_pos rfl, if_pos h]
theorem set_other {α : Type} {l : List α} {i j : Nat} {x : α} (h : j ≠ i) : (l.set i x)[j]? = l[j]? := by
  rw [List.getElem?_set, if_neg (fun z => h z.symm)]
theorem there_inv {P : List (Nk × Nk)} {S : LS} {a b : Nk} {i : Nat} (h : LG P [a] S) (hi : mAt S.m a = some i) (hl : P.length ≤ 100) (fin : ∀ k, (Seen P k ∨ k = a ∨ k = b) → fine 1000 1 k.data = true) :
    ∃ S', lkThere S i b = some S' ∧ LG (P ++ [(a, b)]) [] S' := by
  obtain ⟨gi, hgi, hai⟩ := h.grp a i hi
  have li := (List.getElem?_eq_some_iff.mp hgi).1
  have b1 := h.b1
  have b2 := h.b2
  simp only [List.length_cons, List.length_nil] at b1 b2
  have lgi := h.len hgi
  simp only [List.length_cons, List.length_nil] at lgi
  have ca : ∀ y, y ∈ gi ↔ Conn P a y := h.cls i gi hgi a hai
  unfold lkThere
  rw [hgi, Option.bind_some]
  cases e : mAt S.m b with
  | none =>
    have nb : ¬ Seen P b ∧ b ≠ a := by
      constructor
      · intro q
        have := (h.seen b).mpr (.inl q)
        rw [e] at this
        cases this
      · intro q
        have := (h.seen b).mpr (.inr (by simp [q]))
        rw [e] at this
        cases this
    have cb : ∀ y, Conn P b y ↔ y = b := fun y => Conn.unseen nb.1
    have cb' : ∀ x, Conn P x b ↔ x = b := fun x => ⟨fun q => (cb x).mp q.symm, fun q => q ▸ .refl _⟩
    have bg : ∀ (j : Nat) (g : List Nk), S.gs[j]? = some g → b ∉ g := fun j g hg hb => by
      have := h.own j g hg b hb
      rw [e] at this
      cases this
    simp only
    rw [if_pos ⟨szOk_of (by omega), szOk_of (by omega)⟩]
    refine ⟨_, rfl, fun k => ?_, fun k j q => ?_, fun j g q x hx => ?_, fun j g q x hx y => ?_, fun j g q => ?_, ?_, ?_⟩
    · show (mAt (mPut S.m b i) k).isSome = true ↔ _
      rw [mAt_put, seen_add]
      by_cases e1 : k = b
      · simp [e1]
      · rw [if_neg e1, h.seen k]
        simp [e1]
    · replace q : mAt (mPut S.m b i) k = some j := q
      rw [mAt_put] at q
      by_cases e1 : k = b
      · rw [if_pos e1] at q
        cases q
        exact ⟨gi ++ [b], set_same li, by simp [e1]⟩
      · rw [if_neg e1] at q
        obtain ⟨g, h1, h2⟩ := h.grp k j q
        by_cases e2 : j = i
        · subst e2
          rw [hgi] at h1
          cases h1
          exact ⟨gi ++ [b], set_same li, List.mem_append_left _ h2⟩
        · exact ⟨g, by rw [← h1]; exact set_other e2, h2⟩
    · show mAt (mPut S.m b i) x = some j
      rw [mAt_put]
      rcases get_set q with ⟨rfl, rfl⟩ | ⟨_, q⟩
      · rcases List.mem_append.mp hx with hx | hx
        · split
          · rfl
          · exact h.own _ _ hgi x hx
        · simp only [List.mem_singleton] at hx
          rw [if_pos hx]
      · rw [if_neg (fun z : x = b => bg j g q (z ▸ hx))]
        exact h.own j g q x hx
    · rw [conn_add]
      rcases get_set q with ⟨rfl, rfl⟩ | ⟨ne, q⟩
      · rw [List.mem_append, List.mem_singleton, cb y, cb' x, ← ca y]
        rcases List.mem_append.mp hx with hx | hx
        · have c := h.cls _ _ hgi x hx
          have xa := (c a).mp hai
          have xb : x ≠ b := fun z => bg _ _ hgi (z ▸ hx)
          rw [← c y]
          constructor
          · rintro (z | z)
            · exact .inl z
            · exact .inr (.inl ⟨xa, z⟩)
          · rintro (z | ⟨_, z⟩ | ⟨z, _⟩)
            · exact .inl z
            · exact .inr z
            · exact absurd z xb
        · simp only [List.mem_singleton] at hx
          subst hx
          rw [cb y]
          constructor
          · rintro (z | z)
            · exact .inr (.inr ⟨rfl, z⟩)
            · exact .inl z
          · rintro (z | ⟨_, z⟩ | ⟨_, z⟩)
            · exact .inr z
            · exact .inr z
            · exact .inl z
      · have c := h.cls j g q x hx
        have na : ¬ Conn P x a := fun z => by
          have := h.own j g q a ((c a).mpr z)
          rw [hi] at this
          cases this
          exact ne rfl
        have nb' : ¬ Conn P x b := fun z => bg j g q ((c b).mpr z)
        rw [c y]
        constructor
        · exact .inl
        · rintro (z | ⟨z, _⟩ | ⟨z, _⟩)
          · exact z
          · exact absurd z na
          · exact absurd z nb'
    · rcases get_set q with ⟨rfl, rfl⟩ | ⟨_, q⟩
      · refine List.nodup_append.mpr ⟨h.nd _ _ hgi, by simp, fun u hu v hv z => ?_⟩
        simp only [List.mem_singleton] at hv
        exact bg _ _ hgi (hv ▸ z ▸ hu)
      · exact h.nd j g q
    · have := mPut_len S.m b i
      show (mPut S.m b i).length ≤ _
      simp only [List.length_append, List.length_cons, List.length_nil]
      omega
    · show (S.gs.set i (gi ++ [b])).length ≤ _
      simp only [List.length_set, List.length_append, List.length_cons, List.length_nil]
      omega
  | some j =>
    obtain ⟨gj, hgj, hbj⟩ := h.grp b j e
    have cb : ∀ y, y ∈ gj ↔ Conn P b y := h.cls j gj hgj b hbj
    have sb : Seen P b ∨ b = a := by
      rcases (h.seen b).mp (by rw [e]; rfl) with q | q
      · exact .inl q
      · exact .inr (by simpa using q)
    have sh : (SeqAt.shaped b.data && SeqAt.shaped (.list (grpD gi))) = true := by
      rw [Bool.and_eq_true]
      refine ⟨fine_shaped (fin b (.inr (.inr rfl))) (by decide), shaped_list (W := 1000) (n := 1) (fun d hd => ?_) (by decide)⟩
      obtain ⟨k, hk, rfl⟩ := List.mem_map.mp hd
      refine fin k ?_
      rcases h.mem hgi hk with q | q
      · exact .inl q
      · exact .inr (.inl (by simpa using q))
    simp only
    rw [if_pos sh]
    by_cases bi : b ∈ gi
    · rw [if_pos (isIn_nk.mpr bi)]
      have same : ∀ x y, Conn (P ++ [(a, b)]) x y ↔ Conn P x y := fun x y => by
        rw [conn_add]
        have ab := (ca b).mp bi
        constructor
        · rintro (z | ⟨z, w⟩ | ⟨z, w⟩)
          · exact z
          · exact (z.trans ab).trans w
          · exact (z.trans ab.symm).trans w
        · exact .inl
      refine ⟨S, rfl, fun k => ?_, h.grp, h.own, fun j g q x hx y => ?_, h.nd, ?_, ?_⟩
      · rw [h.seen k, seen_add]
        simp only [List.mem_singleton, List.not_mem_nil, or_false]
        constructor
        · rintro (z | z)
          · exact .inl z
          · exact .inr (.inl z)
        · rintro (z | z | z)
          · exact .inl z
          · exact .inr z
          · rw [z]; exact sb
      · rw [same]
        exact h.cls j g q x hx y
      · simp only [List.length_append, List.length_cons, List.length_nil]
        omega
      · simp only [List.length_append, List.length_cons, List.length_nil]
        omega
    · rw [if_neg fun z => bi (isIn_nk.mp z), hgj, Option.bind_some]
      have ij : i ≠ j := fun z => by
        subst z
        rw [hgi] at hgj
        cases hgj
        exact bi hbj
      have lj := (List.getElem?_eq_some_iff.mp hgj).1
      have lgj := h.len hgj
      simp only [List.length_cons, List.length_nil] at lgj
      unfold lkJoin
      rw [if_pos ⟨ij, szOk_of (by omega), szOk_of (by omega)⟩]
      have nab : ¬ Conn P a b := fun z => bi ((ca b).mpr z)
      have dis : ∀ x, x ∈ gi → x ∈ gj → False := fun x h1 h2 => by
        have q1 := h.own i gi hgi x h1
        have q2 := h.own j gj hgj x h2
        rw [q1] at q2
        cases q2
        exact ij rfl
      have gets : ∀ (l : Nat) (g : List Nk), ((S.gs.set i (gi ++ gj)).set j [])[l]? = some g → (l = j ∧ g = []) ∨ (l = i ∧ g = gi ++ gj) ∨ (l ≠ i ∧ l ≠ j ∧ S.gs[l]? = some g) := fun l g q => by
        rcases get_set q with ⟨rfl, rfl⟩ | ⟨n1, q⟩
        · exact .inl ⟨rfl, rfl⟩
        · rcases get_set q with ⟨rfl, rfl⟩ | ⟨n2, q⟩
          · exact .inr (.inl ⟨rfl, rfl⟩)
          · exact .inr (.inr ⟨n2, n1, q⟩)
      have at_i : ((S.gs.set i (gi ++ gj)).set j [])[i]? = some (gi ++ gj) := by
        rw [set_other ij, set_same li]
      refine ⟨_, rfl, fun k => ?_, fun k l q => ?_, fun l g q x hx => ?_, fun l g q x hx y => ?_, fun l g q => ?_, ?_, ?_⟩
      · show (mAt (gj.foldl (fun m k => mPut m k i) S.m) k).isSome = true ↔ _
        rw [fold_at, seen_add]
        by_cases e1 : k ∈ gj
        · rw [if_pos e1]
          refine ⟨fun _ => .inl ?_, fun _ => rfl⟩
          rcases h.mem hgj e1 with q | q
          · exact .inl q
          · exact .inr (.inl (by simpa using q))
        · rw [if_neg e1, h.seen k]
          simp only [List.mem_singleton, List.not_mem_nil, or_false]
          constructor
          · rintro (z | z)
            · exact .inl z
            · exact .inr (.inl z)
          · rintro (z | z | z)
            · exact .inl z
            · exact .inr z
            · rw [z]; exact sb
      · replace q : mAt (gj.foldl (fun m k => mPut m k i) S.m) k = some l := q
        rw [fold_at] at q
        by_cases e1 : k ∈ gj
        · rw [if_pos e1] at q
          cases q
          exact ⟨_, at_i, List.mem_append_right _ e1⟩
        · rw [if_neg e1] at q
          obtain ⟨g, h1, h2⟩ := h.grp k l q
          by_cases e2 : l = i
          · subst e2
            rw [hgi] at h1
            cases h1
            exact ⟨_, at_i, List.mem_append_left _ h2⟩
          · have e3 : l ≠ j := fun z => by
              subst z
              rw [hgj] at h1
              cases h1
              exact e1 h2
            exact ⟨g, by rw [← h1, set_other e3, set_other e2], h2⟩
      · show mAt (gj.foldl (fun m k => mPut m k i) S.m) x = some l
        rw [fold_at]
        rcases gets l g q with ⟨rfl, rfl⟩ | ⟨rfl, rfl⟩ | ⟨n1, n2, q⟩
        · cases hx
        · rcases List.mem_append.mp hx with hx | hx
          · rw [if_neg (fun z : x ∈ gj => dis x hx z)]
            exact h.own _ _ hgi x hx
          · rw [if_pos hx]
        · have := h.own l g q x hx
          rw [if_neg fun z => ?_]
          · exact this
          · rw [h.own _ _ hgj x z] at this
            cases this
            exact n2 rfl
      · rw [conn_add]
        rcases gets l g q with ⟨rfl, rfl⟩ | ⟨rfl, rfl⟩ | ⟨n1, n2, q⟩
        · cases hx
        · rw [List.mem_append, ← cb y, ← ca y]
          rcases List.mem_append.mp hx with hx | hx
          · have c := h.cls _ _ hgi x hx
            have xa := (c a).mp hai
            rw [← c y]
            constructor
            · rintro (z | z)
              · exact .inl z
              · exact .inr (.inl ⟨xa, z⟩)
            · rintro (z | ⟨_, z⟩ | ⟨_, z⟩)
              · exact .inl z
              · exact .inr z
              · exact .inl z
          · have c := h.cls _ _ hgj x hx
            have xb := (c b).mp hbj
            rw [← c y]
            constructor
            · rintro (z | z)
              · exact .inr (.inr ⟨xb, z⟩)
              · exact .inl z
            · rintro (z | ⟨_, z⟩ | ⟨_, z⟩)
              · exact .inr z
              · exact .inr z
              · exact .inl z
        · have c := h.cls l g q x hx
          have na : ¬ Conn P x a := fun z => by
            have := h.own l g q a ((c a).mpr z)
            rw [hi] at this
            cases this
            exact n1 rfl
          have nb' : ¬ Conn P x b := fun z => by
            have := h.own l g q b ((c b).mpr z)
            rw [e] at this
            cases this
            exact n2 rfl
          rw [c y]
          constructor
          · exact .inl
          · rintro (z | ⟨z, _⟩ | ⟨z, _⟩)
            · exact z
            · exact absurd z na
            · exact absurd z nb'
      · rcases gets l g q with ⟨rfl, rfl⟩ | ⟨rfl, rfl⟩ | ⟨n1, n2, q⟩
        · exact List.nodup_nil
        · exact List.nodup_append.mpr ⟨h.nd _ _ hgi, h.nd _ _ hgj, fun u hu v hv z => dis u hu (z ▸ hv)⟩
        · exact h.nd l g q
      · show (gj.foldl (fun m k => mPut m k i) S.m).length ≤ _
        rw [fold_old i gj S.m fun k hk => by rw [h.own j gj hgj k hk]; rfl]
        simp only [List.length_append, List.length_cons, List.length_nil]
        omega
      · show ((S.gs.set i (gi ++ gj)).set j []).length ≤ _
        simp only [List.length_set, List.length_append, List.length_cons, List.length_nil]
        omega
theorem lk_all : ∀ (r P : List (Nk × Nk)) (S : LS), LG P [] S → P.length + r.length ≤ 100 → (∀ k, Seen (P ++ r) k → fine 1000 1 k.data = true) → ∃ S', lkAll r S = some S' ∧ LG (P ++ r) [] S'
  | [], P, S, h, _, _ => ⟨S, rfl, by rw [List.append_nil]; exact h⟩
  | p :: r, P, S, h, hl, fin => by
    rw [List.length_cons] at hl
    obtain ⟨i, S1, e1, h1, hi⟩ := here_inv p.1 h (by omega)
    have e : P ++ p :: r = (P ++ [(p.1, p.2)]) ++ r := by simp
    rw [e] at fin ⊢
    obtain ⟨S2, e2, h2⟩ := there_inv (b := p.2) h1 hi (by omega) fun k q => fin k (by
      have : Seen (P ++ [(p.1, p.2)]) k := seen_add.mpr q
      obtain ⟨x, hx, y⟩ := this
      exact ⟨x, List.mem_append_left _ hx, y⟩)
    obtain ⟨S3, e3, h3⟩ := lk_all r (P ++ [(p.1, p.2)]) S2 h2 (by simp; omega) fin
    refine ⟨S3, ?_, h3⟩
    rw [lkAll, lkStep, e1, Option.bind_some, e2, Option.bind_some, e3]
end PB

set_option maxHeartbeats 4000000
/-! k02: what the def linked gives. -/
namespace PB
open PySem PySem.Spec PyProof.Rows L2
open PySem.W (alike alikeAll dataLt dataLe keyToks keyToksAll AllAlike Sortable EachIs)
abbrev Up (ds : List D) : Prop := ds.Pairwise (fun a b => dataLt a b = true)
theorem srt_up {ds : List D} (al : AllAlike ds) (nd : ds.Nodup) : Up (srt ds) := by
  have nd' : (srt ds).Nodup := (srt_perm ds).nodup_iff.mpr nd
  refine ((srt_le ds).and nd').imp_of_mem fun {a b} ha hb q => ?_
  have ha' := (srt_perm ds).mem_iff.mp ha
  have hb' := (srt_perm ds).mem_iff.mp hb
  have h1 : dataLt b a = false := by
    have := q.1
    unfold leD at this
    simpa using this
  cases e : dataLt a b with
  | true => rfl
  | false => exact absurd (lt_total (al a ha' b hb') e h1) q.2
theorem SetOk.sort {ds : List D} (so : SetOk ds) : sortOk ds = true := by
  simp only [sortOk, Bool.and_eq_true]
  refine ⟨⟨⟨allAlike_iff.mpr so.al, ?_⟩, decide_eq_true (depthAll_le so.dep)⟩, decide_eq_true (by have := so.few; omega)⟩
  unfold sortable
  rw [List.all_eq_true.mpr so.tup]
  rfl
theorem tk_mem {mem : List D} (h : MemOk mem) {x : D} (hx : x ∈ mem) : ∃ k, tkOf x = some k := by
  rcases h.kind with c | c
  · obtain ⟨s, t, rfl, _⟩ := c x hx
    exact ⟨.tup [.text s, .text t], by simp [tkOf, nkOf, nksOf, NestedKey.depth, NestedKey.depthAll]⟩
  · obtain ⟨s, t, rfl⟩ := c x hx
    exact ⟨.tup [.text s, .num t], by simp [tkOf, nkOf, nksOf, NestedKey.depth, NestedKey.depthAll]⟩
def prD : D → D × D
  | .tuple [x, y] => (x, y)
  | _ => (.none, .none)
theorem pairsKK_ok {mem : List D} (h : MemOk mem) : ∀ {out : List D}, (∀ d ∈ out, PairOf mem d) → ∃ pr, pairsKK out = some pr ∧ pr.map (fun p => (p.1.data, p.2.data)) = out.map prD ∧ pr.length = out.length
  | [], _ => ⟨[], rfl, rfl, rfl⟩
  | d :: out, ho => by
    obtain ⟨pr, e1, e2, e3⟩ := pairsKK_ok h (out := out) fun z hz => ho z (List.mem_cons_of_mem _ hz)
    obtain ⟨x, y, rfl, hx, hy⟩ := ho d (List.mem_cons_self ..)
    obtain ⟨k, hk⟩ := tk_mem h hx
    obtain ⟨j, hj⟩ := tk_mem h hy
    refine ⟨(k, j) :: pr, ?_, ?_, by simp [e3]⟩
    · rw [pairsKK, pairKK, hk, hj, e1]
      rfl
    · rw [List.map_cons, List.map_cons, e2, prD, ← (tkOf_some hk).1, ← (tkOf_some hj).1]
structure IsL (P : List (D × D)) (L : List D) : Prop where
  cls : ∀ r ∈ L, ∃ xs, r = .tuple xs ∧ xs ≠ [] ∧ Up xs ∧ ∀ x ∈ xs, Seen P x ∧ ∀ y, y ∈ xs ↔ Conn P x y
  all : ∀ x, Seen P x → ∃ xs, .tuple xs ∈ L ∧ x ∈ xs
  nd : L.Nodup
  len : L.length ≤ 31
theorem seen_map {pr : List (Nk × Nk)} {x : D} : Seen (pr.map fun p => (p.1.data, p.2.data)) x ↔ ∃ k, x = k.data ∧ Seen pr k := by
  unfold Seen
  constructor
  · rintro ⟨q, hq, e⟩
    obtain ⟨p, hp, rfl⟩ := List.mem_map.mp hq
    rcases e with e | e
    · exact ⟨_, e, p, hp, .inl rfl⟩
    · exact ⟨_, e, p, hp, .inr rfl⟩
  · rintro ⟨k, rfl, p, hp, e⟩
    refine ⟨_, List.mem_map.mpr ⟨p, hp, rfl⟩, ?_⟩
    rcases e with e | e
    · exact .inl (by rw [e])
    · exact .inr (by rw [e])
theorem seen_mem {mem out : List D} (ho : ∀ d ∈ out, PairOf mem d) {x : D} (h : Seen (out.map prD) x) : x ∈ mem := by
  obtain ⟨q, hq, e⟩ := h
  obtain ⟨d, hd, rfl⟩ := List.mem_map.mp hq
  obtain ⟨a, b, rfl, ha, hb⟩ := ho d hd
  rcases e with e | e
  · rw [e]; exact ha
  · rw [e]; exact hb
def lkL (gs : List (List Nk)) : List D := (gs.filter fun g => !g.isEmpty).map fun g => .tuple (srt (grpD g))
theorem isL_of {mem out : List D} {pr : List (Nk × Nk)} {S : LS} (h : MemOk mem) (ho : ∀ d ∈ out, PairOf mem d) (hp : pr.map (fun p => (p.1.data, p.2.data)) = out.map prD) (hl : pr.length ≤ 31) (g : LG pr [] S) :
    IsL (out.map prD) (lkL S.gs) ∧ ∀ (i : Nat) (gi : List Nk), S.gs[i]? = some gi → sortOk (grpD gi) = true := by
  have seen : ∀ (i : Nat) (gi : List Nk), S.gs[i]? = some gi → ∀ k ∈ gi, Seen pr k := fun i gi hg k hk => (g.mem hg hk).elim id fun z => by cases z
  have inm : ∀ (i : Nat) (gi : List Nk), S.gs[i]? = some gi → ∀ d ∈ grpD gi, d ∈ mem := fun i gi hg d hd => by
    obtain ⟨k, hk, rfl⟩ := List.mem_map.mp hd
    refine seen_mem ho ?_
    rw [← hp]
    exact seen_map.mpr ⟨k, rfl, seen i gi hg k hk⟩
  have so : ∀ (i : Nat) (gi : List Nk), S.gs[i]? = some gi → SetOk (grpD gi) := fun i gi hg => set_mems h (inm i gi hg) (by
    have := g.len hg
    simp only [List.length_nil] at this
    unfold grpD
    rw [List.length_map]
    omega)
  have nd : ∀ (i : Nat) (gi : List Nk), S.gs[i]? = some gi → (grpD gi).Nodup := fun i gi hg => List.pairwise_map.mpr ((g.nd i gi hg).imp fun {a b} q e => q (data_inj e))
  have inx : ∀ gi (x : D), x ∈ srt (grpD gi) ↔ ∃ k, k ∈ gi ∧ k.data = x := fun gi x => by
    rw [(srt_perm _).mem_iff]
    unfold grpD
    rw [List.mem_map]
  refine ⟨⟨fun r hr => ?_, fun x hx => ?_, ?_, ?_⟩, fun i gi hg => (so i gi hg).sort⟩
  · obtain ⟨gi, hgi, rfl⟩ := List.mem_map.mp hr
    obtain ⟨m1, m2⟩ := List.mem_filter.mp hgi
    obtain ⟨i, hi⟩ := List.getElem?_of_mem m1
    refine ⟨_, rfl, fun z => ?_, srt_up (so i gi hi).al (nd i gi hi), fun x hx => ?_⟩
    · have e := (srt_perm (grpD gi)).length_eq
      rw [z] at e
      unfold grpD at e
      rw [List.length_map] at e
      cases gi with
      | nil => cases m2
      | cons _ _ => cases e
    · obtain ⟨k, hk, rfl⟩ := (inx gi x).mp hx
      refine ⟨by rw [← hp]; exact seen_map.mpr ⟨k, rfl, seen i gi hi k hk⟩, fun y => ?_⟩
      rw [inx, ← hp, conn_map (f := NestedKey.data) (fun a b e => data_inj e)]
      constructor
      · rintro ⟨j, hj, rfl⟩
        exact ⟨j, rfl, (g.cls i gi hi k hk j).mp hj⟩
      · rintro ⟨j, rfl, c⟩
        exact ⟨j, (g.cls i gi hi k hk j).mpr c, rfl⟩
  · rw [← hp] at hx
    obtain ⟨k, rfl, hk⟩ := seen_map.mp hx
    obtain ⟨i, hi⟩ := Option.isSome_iff_exists.mp ((g.seen k).mpr (.inl hk))
    obtain ⟨gi, hg, hki⟩ := g.grp k i hi
    refine ⟨_, List.mem_map.mpr ⟨gi, List.mem_filter.mpr ⟨List.mem_of_getElem? hg, ?_⟩, rfl⟩, (inx gi _).mpr ⟨k, hki, rfl⟩⟩
    cases gi with
    | nil => cases hki
    | cons _ _ => rfl
  · unfold lkL
    have pw : S.gs.Pairwise (fun a b => ∀ k ∈ a, k ∉ b) := by
      rw [List.pairwise_iff_getElem]
      intro i j hi hj lt k h1 h2
      have q1 := g.own i _ (List.getElem?_eq_getElem hi) k h1
      have q2 := g.own j _ (List.getElem?_eq_getElem hj) k h2
      rw [q1] at q2
      cases q2
      exact Nat.lt_irrefl _ lt
    refine List.pairwise_map.mpr ((pw.filter _).imp_of_mem fun {a b} ha hb q e => ?_)
    have ne : a ≠ [] := fun z => by
      have := (List.mem_filter.mp ha).2
      rw [z] at this
      cases this
    obtain ⟨k, hk⟩ := List.exists_mem_of_ne_nil a ne
    injection e with e
    have : k.data ∈ srt (grpD b) := by
      rw [← e]
      exact (inx a _).mpr ⟨k, hk, rfl⟩
    obtain ⟨j, hj, ej⟩ := (inx b _).mp this
    rw [data_inj ej] at hj
    exact q k hk hj
  · unfold lkL
    rw [List.length_map]
    have := List.length_filter_le (fun g : List Nk => !g.isEmpty) S.gs
    have b2 := g.b2
    simp only [List.length_nil] at b2
    omega
theorem linked_ok {mem out : List D} (h : MemOk mem) (ho : ∀ d ∈ out, PairOf mem d) (hl : out.length ≤ 31) : ∃ L, f_linked [.tuple out] = some (.val (.list L)) ∧ IsL (out.map prD) L := by
  obtain ⟨pr, e1, e2, e3⟩ := pairsKK_ok h ho
  obtain ⟨S, e4, g⟩ := lk_all pr [] ⟨[], []⟩ LG.nil (by simp; omega) fun k hk => by
    rw [List.nil_append] at hk
    refine h.fin _ (seen_mem ho ?_)
    rw [← e2]
    exact seen_map.mpr ⟨k, rfl, hk⟩
  rw [List.nil_append] at g
  obtain ⟨iL, so⟩ := isL_of h ho e2 (by omega) g
  refine ⟨_, ?_, iL⟩
  have hs : sLink [some (.val (.tuple out)), none, none, none, none, none, none, none, none] = some (.next, [some (.val (.tuple out)), none, some (.val (outG S.gs)), none, none, none, none, none, none]) := by
    unfold sLink
    simp only
    rw [show seqOf (.tuple out) = some out from rfl, Option.bind_some, e1, Option.bind_some, e4]
    rfl
  have bb := g.b2
  simp only [List.length_nil] at bb
  have lc : mLc (mIt (mVar 2)) (bName 8) (mTru (mVar 8)) (mCB fTuple (mCons (mNew (mSort (mVar 8))) mNil)) [8] [some (.val (.tuple out)), none, some (.val (outG S.gs)), none, none, none, none, none, none] = some (lkL S.gs, [some (.val (.tuple out)), none, some (.val (outG S.gs)), none, none, none, none, none, none]) := by
    rw [lc_pure (items := S.gs.map fun g => .list (grpD g)) (fun d => match d with | .list ds => !ds.isEmpty | _ => false) (fun d => match d with | .list ds => .tuple (srt ds) | _ => .none) (fun d => [some (.val (.tuple out)), none, some (.val (outG S.gs)), none, none, none, none, none, some (.val d)]) [some (.val (.tuple out)), none, some (.val (outG S.gs)), none, none, none, none, none, none] rfl (by rw [List.length_map]; omega) rfl rfl (fun d hd => rfl) (fun d hd => ?_) (fun d hd ht => ?_) (fun d hd => rfl)]
    · unfold lkL
      rw [List.filter_map, List.map_map]
      congr 2
      refine congrArg (List.map _) (List.filter_congr fun x _ => ?_)
      show (!(grpD x).isEmpty) = _
      unfold grpD
      rw [List.isEmpty_map]
    · obtain ⟨gi, _, rfl⟩ := List.mem_map.mp hd
      rfl
    · obtain ⟨gi, hg, rfl⟩ := List.mem_map.mp hd
      obtain ⟨i, hi⟩ := List.getElem?_of_mem hg
      have : mSort (mVar 8) [some (.val (.tuple out)), none, some (.val (outG S.gs)), none, none, none, none, none, some (.val (.list (grpD gi)))] = some (srt (grpD gi), [some (.val (.tuple out)), none, some (.val (outG S.gs)), none, none, none, none, none, some (.val (.list (grpD gi)))]) := by
        show (if sortOk (grpD gi) = true then _ else _) = _
        rw [if_pos (so i gi hi)]
      unfold mCB mCons mNew
      rw [this]
      rfl
  unfold f_linked M_linked
  rw [runP_def]
  have st : startE 9 [.tuple out] = [some (.val (.tuple out)), none, none, none, none, none, none, none, none] := rfl
  rw [st]
  simp only [ev_Seq, hs, Option.bind_some, ev_Ret, ev_New, lc, Option.map_some]
end PB

set_option maxHeartbeats 4000000
/-! k02: the parts, and that there is one row of them. -/
namespace PB
open PySem PySem.Spec PyProof.Rows L2
open PySem.W (alike alikeAll dataLt dataLe keyToks keyToksAll AllAlike Sortable EachIs)
structure IsPart (mem : List D) (P : List (D × D)) (R : List D) : Prop where
  up : Up R
  cls : ∀ r ∈ R, ∃ xs, r = .tuple xs ∧ xs ≠ [] ∧ Up xs ∧ ∀ x ∈ xs, x ∈ mem ∧ ∀ y, y ∈ xs ↔ Conn P x y
  all : ∀ x ∈ mem, ∃ xs, .tuple xs ∈ R ∧ x ∈ xs
theorem IsPart.sub {mem : List D} {P : List (D × D)} {R R' : List D} (h : IsPart mem P R) (h' : IsPart mem P R') : ∀ r ∈ R, r ∈ R' := fun r hr => by
  obtain ⟨xs, rfl, ne, up, c⟩ := h.cls r hr
  obtain ⟨x, hx⟩ := List.exists_mem_of_ne_nil xs ne
  obtain ⟨xs', h1, h2⟩ := h'.all x (c x hx).1
  obtain ⟨ys, e, _, up', c'⟩ := h'.cls _ h1
  cases e
  have : xs = xs' := pw_same up up' fun y => by rw [(c x hx).2 y, (c' x h2).2 y]
  rw [this]
  exact h1
theorem IsPart.same {mem : List D} {P : List (D × D)} {R R' : List D} (h : IsPart mem P R) (h' : IsPart mem P R') : R = R' := pw_same h.up h'.up fun r => ⟨h.sub h' r, h'.sub h r⟩
/-! ### tuples by their items -/
theorem lt_ne {a b : D} (al : alike a b = true) (h : dataLt a b = true) : PyData.eqv a b = false := by
  cases e : PyData.eqv a b with
  | false => rfl
  | true =>
    have := (W.toks_eqv a b al).1 e
    unfold dataLt at h
    rw [this] at h
    have z := lt_irrefl b
    unfold dataLt at z
    rw [z] at h
    cases h
theorem lt_head {a b : D} {r s : List D} (al : alike a b = true) (h : dataLt a b = true) : dataLt (.tuple (a :: r)) (.tuple (b :: s)) = true := by
  unfold dataLt
  simp only [keyToks]
  rw [W.toks_all_cons, W.toks_all_cons]
  exact (lex_self (O := itemOrd) _ _ _).trans (((W.toks_eqv a b al).2 (lt_ne al h) _ _).trans h)
theorem lt_next {a c d : D} {r s : List D} (al : alike c d = true) (h : dataLt c d = true) : dataLt (.tuple (a :: c :: r)) (.tuple (a :: d :: s)) = true := by
  unfold dataLt
  simp only [keyToks]
  rw [W.toks_all_cons, W.toks_all_cons, W.toks_all_cons, W.toks_all_cons]
  exact (lex_self (O := itemOrd) _ _ _).trans ((W.lex_pre _ _ _).trans ((lex_self (O := itemOrd) _ _ _).trans (((W.toks_eqv c d al).2 (lt_ne al h) _ _).trans h)))
/-! ### the columns rise -/
theorem alike_str {a b : D} (ha : isStr a = true) (hb : isStr b = true) : alike a b = true := by
  cases a <;> first | cases ha | skip
  cases b <;> first | cases hb | skip
  simp [alike]
theorem colH_up {h : D} (q : house h = true) : Up (colH h) := by
  obtain ⟨a, b, rfl, _, ht⟩ := house_inv q
  unfold table at ht
  split at ht
  · rename_i cs r
    rw [Bool.and_eq_true] at ht
    have hc := ht.1
    simp only [cols, Bool.and_eq_true] at hc
    show Up (cs.map fun c => .tuple [a, c])
    refine List.pairwise_map.mpr ((rises_pw hc.2).imp_of_mem fun {c d} hcm hdm lt => ?_)
    exact lt_next (alike_str (name_str (List.all_eq_true.mp hc.1.2 c hcm)) (name_str (List.all_eq_true.mp hc.1.2 d hdm))) lt
  · cases ht
theorem colH_fst {h m : D} (hm : m ∈ colH h) : ∃ c, m = .tuple [fstD h, c] := by
  unfold colH at hm
  split at hm
  · obtain ⟨c, _, rfl⟩ := List.mem_map.mp hm
    exact ⟨c, rfl⟩
  · cases hm
theorem cols_up : ∀ {hs : List D}, hs.all house = true → Up (hs.map fstD) → Up (colsL hs)
  | [], _, _ => List.Pairwise.nil
  | h :: hs, q, u => by
    rw [List.all_cons, Bool.and_eq_true] at q
    rw [List.map_cons] at u
    obtain ⟨u1, u2⟩ := List.pairwise_cons.mp u
    have ih := cols_up (hs := hs) q.2 u2
    show Up (colH h ++ colsL hs)
    refine List.pairwise_append.mpr ⟨colH_up q.1, ih, fun x hx y hy => ?_⟩
    obtain ⟨c, rfl⟩ := colH_fst hx
    obtain ⟨h', hh, hy⟩ := List.mem_flatMap.mp hy
    obtain ⟨d, rfl⟩ := colH_fst hy
    obtain ⟨a, _, rfl, na, _⟩ := house_inv q.1
    obtain ⟨b, _, rfl, nb, _⟩ := house_inv (List.all_eq_true.mp q.2 h' hh)
    refine lt_head ?_ (u1 _ (List.mem_map.mpr ⟨_, hh, rfl⟩))
    exact alike_str (name_str na) (name_str nb)
theorem Drawn.up {fs : List D} (h : Drawn fs) : Up (colsL fs) := by
  have ho := h.ok
  simp only [houses, Bool.and_eq_true] at ho
  exact cols_up ho.1.2 (rises_pw ho.2)
/-! ### dicts as data -/
theorem atN_nil (k : Nk) : atN [] k = none := rfl
theorem atN_cons (x : Nk × D) (m : List (Nk × D)) (k : Nk) : atN (x :: m) k = if x.1 = k then some x.2 else atN m k := by
  unfold atN
  rw [List.find?_cons]
  by_cases e : x.1 = k
  · simp [e]
  · simp [e]
theorem atN_map (k : Nk) (i : D) (k' : Nk) : ∀ m : List (Nk × D), atN (m.map fun x => if x.1 = k then (x.1, i) else x) k' = if k' = k then (atN m k').map (fun _ => i) else atN m k'
  | [] => by simp [atN_nil]
  | x :: m => by
    rw [List.map_cons, atN_cons, atN_cons, atN_map k i k' m]
    by_cases e : x.1 = k
    · rw [if_pos e]
      by_cases e1 : x.1 = k'
      · have : k' = k := e1 ▸ e
        simp [e1, this]
      · simp [e1]
    · rw [if_neg e]
      by_cases e1 : x.1 = k'
      · have : ¬ k' = k := fun z => e (e1.trans z)
        simp [e1, this]
      · simp [e1]
theorem atN_app (k : Nk) (m n : List (Nk × D)) : atN (m ++ n) k = (atN m k).or (atN n k) := by
  induction m with
  | nil => simp [atN_nil]
  | cons x m ih =>
    rw [List.cons_append, atN_cons, atN_cons, ih]
    split <;> simp
theorem atN_put (m : List (Nk × D)) (k : Nk) (i : D) (k' : Nk) : atN (putN m k i) k' = if k' = k then some i else atN m k' := by
  unfold putN
  split
  · rename_i h
    rw [atN_map]
    split
    · rename_i e
      subst e
      obtain ⟨j, hj⟩ := Option.isSome_iff_exists.mp h
      rw [hj]; rfl
    · rfl
  · rename_i h
    rw [atN_app, atN_cons, atN_nil]
    have hn : atN m k = none := by simpa using h
    by_cases e : k' = k
    · subst e; simp [hn]
    · have : ¬ k = k' := fun z => e z.symm
      simp [e, this]
theorem merge_at (k : Nk) : ∀ (ps acc : List (Nk × D)), (atN (mergeN acc ps) k = atN acc k ∧ ∀ p ∈ ps, p.1 ≠ k) ∨ ∃ d, (k, d) ∈ ps ∧ atN (mergeN acc ps) k = some d
  | [], acc => .inl ⟨rfl, fun p hp => by cases hp⟩
  | p :: ps, acc => by
    have e : mergeN acc (p :: ps) = mergeN (putN acc p.1 p.2) ps := rfl
    rw [e]
    rcases merge_at k ps (putN acc p.1 p.2) with ⟨h1, h2⟩ | ⟨d, h1, h2⟩
    · rw [h1, atN_put]
      by_cases e1 : k = p.1
      · rw [if_pos e1]
        exact .inr ⟨p.2, by rw [e1]; exact List.mem_cons_self .., rfl⟩
      · rw [if_neg e1]
        refine .inl ⟨rfl, fun q hq => ?_⟩
        rcases List.mem_cons.mp hq with q1 | q1
        · rw [q1]; exact fun z => e1 z.symm
        · exact h2 q q1
    · exact .inr ⟨d, List.mem_cons_of_mem _ h1, h2⟩
theorem put_keys {c : List (Nk × D)} {k : Nk} {d : D} (h : ∀ p ∈ c, Gk p.1) (hk : Gk k) : ∀ p ∈ putN c k d, Gk p.1 := fun p hp => by
  unfold putN at hp
  split at hp
  · obtain ⟨q, hq, rfl⟩ := List.mem_map.mp hp
    split
    · exact h q hq
    · exact h q hq
  · rcases List.mem_append.mp hp with hp | hp
    · exact h p hp
    · simp only [List.mem_singleton] at hp
      rw [hp]; exact hk
theorem merge_keys : ∀ {ps acc : List (Nk × D)}, (∀ p ∈ ps, Gk p.1) → (∀ p ∈ acc, Gk p.1) → ∀ p ∈ mergeN acc ps, Gk p.1
  | [], acc, _, h => h
  | p :: ps, acc, hp, h => merge_keys (ps := ps) (acc := putN acc p.1 p.2) (fun q hq => hp q (List.mem_cons_of_mem _ hq)) (put_keys h (hp p (List.mem_cons_self ..)))
theorem keysN_out : ∀ {nd : List (Nk × D)}, (∀ p ∈ nd, Gk p.1) → keysN (outN nd) = some nd
  | [], _ => rfl
  | p :: nd, h => by
    have e : outN (p :: nd) = (p.1.data, p.2) :: outN nd := rfl
    rw [e, keysN, h p (List.mem_cons_self ..), keysN_out fun q hq => h q (List.mem_cons_of_mem _ hq)]
    rfl
def atD (ps : List (Nk × D)) (m : D) : Option D := (tkOf m).bind fun k => atN (mergeN [] ps) k
theorem gk_of {d : D} {k : Nk} (h : tkOf d = some k) : Gk k := by
  unfold Gk
  rw [← (tkOf_some h).1]
  exact h
theorem pairsN_ok : ∀ {l : List (D × D)}, (∀ p ∈ l, ∃ k, tkOf p.1 = some k) → ∃ ps, pairsN (l.map fun p => .tuple [p.1, p.2]) = some ps ∧ (∀ p ∈ ps, Gk p.1) ∧ ps.map (fun p => (p.1.data, p.2)) = l
  | [], _ => ⟨[], rfl, (fun p hp => absurd hp List.not_mem_nil), rfl⟩
  | p :: l, h => by
    obtain ⟨ps, e1, e2, e3⟩ := pairsN_ok (l := l) fun q hq => h q (List.mem_cons_of_mem _ hq)
    obtain ⟨k, hk⟩ := h p (List.mem_cons_self ..)
    refine ⟨(k, p.2) :: ps, ?_, fun q hq => ?_, ?_⟩
    · rw [List.map_cons, pairsN, pairN, hk, e1]
      rfl
    · rcases List.mem_cons.mp hq with q1 | q1
      · rw [q1]; exact gk_of hk
      · exact e2 q q1
    · rw [List.map_cons, e3, ← (tkOf_some hk).1]
theorem dIn_dict {ps : List (Nk × D)} (hg : ∀ p ∈ ps, Gk p.1) {m : D} {k : Nk} (hm : tkOf m = some k) (neg : Bool) : dInDn neg m (dictOf ps) = some (.bool ((atD ps m).isSome != neg)) := by
  unfold dInDn dictOf atD
  rw [hm]
  simp only
  rw [keysN_out (merge_keys hg fun p hp => by cases hp)]
  rfl
theorem get_dict {ps : List (Nk × D)} (hg : ∀ p ∈ ps, Gk p.1) {m x : D} {k : Nk} (hm : tkOf m = some k) : getN2 (dictOf ps) m x = some ((atD ps m).getD x) := by
  unfold getN2 dictOf atD
  rw [hm]
  simp only
  rw [keysN_out (merge_keys hg fun p hp => by cases hp)]
  rfl
theorem atD_some {ps : List (Nk × D)} {l : List (D × D)} (e : ps.map (fun p => (p.1.data, p.2)) = l) {m d : D} (h : atD ps m = some d) : (m, d) ∈ l := by
  unfold atD at h
  obtain ⟨k, h1, h2⟩ := Option.bind_eq_some_iff.mp h
  rcases merge_at k ps [] with ⟨q, _⟩ | ⟨d', q1, q2⟩
  · rw [q, atN_nil] at h2
    cases h2
  · rw [q2] at h2
    cases h2
    rw [← e, (tkOf_some h1).1]
    exact List.mem_map.mpr ⟨_, q1, rfl⟩
theorem atD_none {ps : List (Nk × D)} {l : List (D × D)} (e : ps.map (fun p => (p.1.data, p.2)) = l) {m d : D} {k : Nk} (hm : tkOf m = some k) (h : atD ps m = none) : (m, d) ∉ l := fun hd => by
  unfold atD at h
  rw [hm, Option.bind_some] at h
  rcases merge_at k ps [] with ⟨_, q⟩ | ⟨d', q1, q2⟩
  · rw [← e] at hd
    obtain ⟨p, hp, e1⟩ := List.mem_map.mp hd
    obtain ⟨e2, _⟩ := Prod.mk.inj e1
    have := (tkOf_some hm).1
    rw [this] at e2
    exact q p hp (data_inj e2)
  · rw [q2] at h
    cases h
end PB

set_option maxHeartbeats 4000000
/-! k02: all_groups, kinds. -/
namespace PB
open PySem PySem.Spec PyProof.Rows L2
open PySem.W (alike alikeAll dataLt dataLe keyToks keyToksAll AllAlike Sortable EachIs)
theorem e_columns_of {hs : List D} (h : ∀ x ∈ hs, hsH x = true) (hl : hs.length ≤ 4) : f_columns_of [.tuple hs] = some (.val (.list (colsL hs))) := by
  have go := lc2Go_pure (bind := bTup 2 (bCons (bName 2) (bCons (bTup 2 (bCons (bName 3) (bCons (bName 4) bNil))) bNil))) (bind1 := bName 1) (test1 := mYes) (mi1 := mIt (mVar 3)) (elt := mTup (mCons (mVar 2) (mCons (mVar 1) mNil))) (vs := [2, 3, 4, 1]) (vs1 := [1])
    (e0 := [some (.val (.tuple hs)), none, none, none, none]) colH (fun d => match d with | .tuple [n, .tuple [a, b]] => [some (.val (.tuple hs)), none, some (.val n), some (.val a), some (.val b)] | _ => [])
    (fun d => match d with | .tuple [n, .tuple [a, b]] => [some (.val (.tuple hs)), none, some (.val n), some (.val a), some (.val b)] | _ => []) (fun d => match d with | .tuple [_, .tuple [.tuple cs, _]] => cs | _ => []) (items := hs)
    (fun d hd => by obtain ⟨s, cs, rs, rfl, _⟩ := hsH_inv (h d hd); rfl) (fun d hd => by obtain ⟨s, cs, rs, rfl, _⟩ := hsH_inv (h d hd); rfl) (fun d hd => by obtain ⟨s, cs, rs, rfl, _⟩ := hsH_inv (h d hd); rfl)
    (fun d hd => by
      obtain ⟨s, cs, rs, rfl, _⟩ := hsH_inv (h d hd)
      have := lcGo_pure (bind := bName 1) (test := mYes) (elt := mTup (mCons (mVar 2) (mCons (mVar 1) mNil))) (vs := [1]) (e0 := [some (.val (.tuple hs)), none, some (.val (.str s)), some (.val (.tuple cs)), some (.val (.tuple rs))]) (fun _ => true) (fun c => .tuple [.str s, c])
        (fun c => [some (.val (.tuple hs)), some (.val c), some (.val (.str s)), some (.val (.tuple cs)), some (.val (.tuple rs))]) (items := cs) (fun _ _ => rfl) (fun _ _ => rfl) (fun _ _ _ => rfl) (fun _ _ => rfl)
      rw [filter_true] at this
      exact this)
    (fun d hd => by obtain ⟨s, cs, rs, rfl, _⟩ := hsH_inv (h d hd); rfl)
  have hz : szOk (colsL hs).length = true := decide_eq_true (by have := colsL_len h; omega)
  have : mLc2 (mIt (mVar 0)) (bTup 2 (bCons (bName 2) (bCons (bTup 2 (bCons (bName 3) (bCons (bName 4) bNil))) bNil))) mYes (mIt (mVar 3)) (bName 1) mYes (mTup (mCons (mVar 2) (mCons (mVar 1) mNil))) [2, 3, 4, 1] [1] [some (.val (.tuple hs)), none, none, none, none] = some (colsL hs, [some (.val (.tuple hs)), none, none, none, none]) := by
    unfold mLc2
    simp only [ev_It, ev_Var0 (s := none), Option.bind_some, items_t, Option.map_some]
    rw [show wipeC [some (.val (.tuple hs)), none, none, none, none] [2, 3, 4, 1] = some [some (.val (.tuple hs)), none, none, none, none] from rfl]
    simp only [Option.bind_some]
    rw [go]
    simp only [Option.bind_some]
    rw [if_pos (show szOk (hs.flatMap colH).length = true from hz)]
    rfl
  simp [f_columns_of, M_columns_of, runP_def, startE, this]
def tailD : D → List D
  | .tuple (_ :: r) => r
  | _ => []
/-- each is a tuple with an item at least, all of its items members -/
def Grp (mem : List D) (r : D) : Prop := ∃ x xs, r = .tuple (x :: xs) ∧ x ∈ mem ∧ ∀ y ∈ xs, y ∈ mem
theorem lc_first {mem L : List D} {a : D} (hL : ∀ r ∈ L, Grp mem r) (hl : L.length ≤ 1000) :
    mLc (mIt (mVar 1)) (bName 4) mYes (mPair (mBin dIx (mVar 4) (mC (.int 0))) (mVar 4)) [4] [some (.val a), some (.val (.list L)), none, none, none, none] = some (L.map fun r => .tuple [fstD r, r], [some (.val a), some (.val (.list L)), none, none, none, none]) := by
  rw [lc_pure (items := L) (fun _ => true) (fun r => .tuple [fstD r, r]) (fun d => [some (.val a), some (.val (.list L)), none, none, some (.val d), none]) [some (.val a), some (.val (.list L)), none, none, none, none] rfl (by omega) rfl rfl (fun d hd => rfl) (fun d _ => rfl) (fun d hd _ => ?_) (fun d hd => rfl), filter_true]
  obtain ⟨x, xs, rfl, _⟩ := hL d hd
  simp [mPair, dIx, fstD]
theorem flat_big {α : Type} (f : α → List D) (k : Nat) : ∀ hs : List α, (∀ h ∈ hs, (f h).length ≤ k) → (hs.flatMap f).length ≤ hs.length * k
  | [], _ => by simp
  | h :: hs, q => by
    have := flat_big f k hs fun x hx => q x (List.mem_cons_of_mem _ hx)
    have := q h (List.mem_cons_self ..)
    rw [List.flatMap_cons, List.length_append, List.length_cons, Nat.succ_mul]
    omega
theorem lc_later {mem L : List D} {a b : D} (hL : ∀ r ∈ L, Grp mem r) (hl : L.length ≤ 100) (ht : ∀ r ∈ L, (tailD r).length ≤ 100) :
    mLc2 (mIt (mVar 1)) (bName 4) mYes (mIt (mSl (mVar 4) (mPart (mC (.int 1))) mNoPart)) (bName 5) mYes (mPair (mVar 5) (mC (.bool true))) [4, 5] [5] [some (.val a), some (.val (.list L)), some (.val b), none, none, none] =
      some (L.flatMap fun r => (tailD r).map fun m => .tuple [m, .bool true], [some (.val a), some (.val (.list L)), some (.val b), none, none, none]) := by
  have go := lc2Go_pure (bind := bName 4) (bind1 := bName 5) (test1 := mYes) (mi1 := mIt (mSl (mVar 4) (mPart (mC (.int 1))) mNoPart)) (elt := mPair (mVar 5) (mC (.bool true))) (vs := [4, 5]) (vs1 := [5])
    (e0 := [some (.val a), some (.val (.list L)), some (.val b), none, none, none]) (fun r => (tailD r).map fun m => .tuple [m, .bool true]) (fun d => [some (.val a), some (.val (.list L)), some (.val b), none, some (.val d), none])
    (fun d => [some (.val a), some (.val (.list L)), some (.val b), none, some (.val d), none]) tailD (items := L)
    (fun d hd => rfl) (fun d hd => by
      obtain ⟨x, xs, rfl, _⟩ := hL d hd
      have : dSl (.tuple (x :: xs)) (some 1) none = some (.tuple xs) := by
        show some (PyData.tuple (cutD (x :: xs) (some 1) none)) = _
        rw [cutD1]
        rfl
      simp [this, tailD]) (fun d hd => rfl)
    (fun d hd => by
      have := lcGo_pure (bind := bName 5) (test := mYes) (elt := mPair (mVar 5) (mC (.bool true))) (vs := [5]) (e0 := [some (.val a), some (.val (.list L)), some (.val b), none, some (.val d), none]) (fun _ => true) (fun m => .tuple [m, .bool true])
        (fun m => [some (.val a), some (.val (.list L)), some (.val b), none, some (.val d), some (.val m)]) (items := tailD d) (fun _ _ => rfl) (fun _ _ => rfl) (fun _ _ _ => rfl) (fun _ _ => rfl)
      rw [filter_true] at this
      exact this)
    (fun d hd => rfl)
  unfold mLc2
  simp only [ev_It, ev_Var1, Option.bind_some]
  rw [show itemsOf (.list L) = some L from rfl]
  simp only [Option.map_some, Option.bind_some]
  rw [show wipeC [some (.val a), some (.val (.list L)), some (.val b), none, none, none] [4, 5] = some [some (.val a), some (.val (.list L)), some (.val b), none, none, none] from rfl]
  simp only [Option.bind_some]
  rw [go]
  simp only [Option.bind_some]
  have := flat_big (fun r => (tailD r).map fun m => PyData.tuple [m, .bool true]) 100 L fun r hr => by rw [List.length_map]; exact ht r hr
  rw [if_pos (show szOk _ = true from decide_eq_true (by omega))]
  rfl
theorem e_all_groups {mem L : List D} (h : MemOk mem) (hm : mem.length ≤ 1000) (hL : ∀ r ∈ L, Grp mem r) (hl : L.length ≤ 100) (ht : ∀ r ∈ L, (tailD r).length ≤ 100) :
    ∃ first later : List (Nk × D), first.map (fun p => (p.1.data, p.2)) = L.map (fun r => (fstD r, r)) ∧ later.map (fun p => (p.1.data, p.2)) = L.flatMap (fun r => (tailD r).map fun m => (m, .bool true)) ∧
      f_all_groups [.list mem, .list L] = some (.new ((mem.filter fun m => !(atD later m).isSome).map fun m => (atD first m).getD (.tuple [m]))) := by
  obtain ⟨first, f1, f2, f3⟩ := pairsN_ok (l := L.map fun r => (fstD r, r)) fun p hp => by
    obtain ⟨r, hr, rfl⟩ := List.mem_map.mp hp
    obtain ⟨x, xs, rfl, hx, _⟩ := hL r hr
    exact tk_mem h hx
  obtain ⟨later, l1, l2, l3⟩ := pairsN_ok (l := L.flatMap fun r => (tailD r).map fun m => (m, .bool true)) fun p hp => by
    obtain ⟨r, hr, hp⟩ := List.mem_flatMap.mp hp
    obtain ⟨m, hm, rfl⟩ := List.mem_map.mp hp
    obtain ⟨x, xs, rfl, _, hx⟩ := hL r hr
    exact tk_mem h (hx m hm)
  refine ⟨first, later, f3, l3, ?_⟩
  rw [List.map_map] at f1
  rw [List.map_flatMap] at l1
  have l1' : pairsN (L.flatMap fun r => (tailD r).map fun m => .tuple [m, .bool true]) = some later := by
    rw [← l1]
    simp only [List.map_map]
    rfl
  have f1' : pairsN (L.map fun r => .tuple [fstD r, r]) = some first := f1
  have s1 := lc_first (a := .list mem) hL (by omega)
  have s2 := lc_later (a := .list mem) (b := dictOf first) hL hl ht
  have s3 : mLc (mIt (mVar 0)) (bName 5) (mB (mBin (dInDn true) (mVar 5) (mVar 3))) (mGetDn2 (mVar 2) (mVar 5) (mTup (mCons (mVar 5) mNil))) [5] [some (.val (.list mem)), some (.val (.list L)), some (.val (dictOf first)), some (.val (dictOf later)), none, none] =
      some ((mem.filter fun m => !(atD later m).isSome).map fun m => (atD first m).getD (.tuple [m]), [some (.val (.list mem)), some (.val (.list L)), some (.val (dictOf first)), some (.val (dictOf later)), none, none]) := by
    refine lc_pure (items := mem) (fun m => !(atD later m).isSome) (fun m => (atD first m).getD (.tuple [m])) (fun d => [some (.val (.list mem)), some (.val (.list L)), some (.val (dictOf first)), some (.val (dictOf later)), none, some (.val d)]) [some (.val (.list mem)), some (.val (.list L)), some (.val (dictOf first)), some (.val (dictOf later)), none, none] rfl (by omega) rfl rfl (fun d hd => rfl) (fun d hd => ?_) (fun d hd _ => ?_) (fun d hd => rfl)
    · obtain ⟨k, hk⟩ := tk_mem h hd
      simp [dIn_dict l2 hk true]
    · obtain ⟨k, hk⟩ := tk_mem h hd
      have z1 : szOk 1 = true := rfl
      simp [mGetDn2, get_dict f2 hk, z1]
  have b1 : bName 2 (dictOf first) [some (.val (.list mem)), some (.val (.list L)), none, none, none, none] = some [some (.val (.list mem)), some (.val (.list L)), some (.val (dictOf first)), none, none, none] := rfl
  have b2 : bName 3 (dictOf later) [some (.val (.list mem)), some (.val (.list L)), some (.val (dictOf first)), none, none, none] = some [some (.val (.list mem)), some (.val (.list L)), some (.val (dictOf first)), some (.val (dictOf later)), none, none] := rfl
  have m1 : mDc (mLc (mIt (mVar 1)) (bName 4) mYes (mPair (mBin dIx (mVar 4) (mC (.int 0))) (mVar 4)) [4]) [some (.val (.list mem)), some (.val (.list L)), none, none, none, none] = some (dictOf first, [some (.val (.list mem)), some (.val (.list L)), none, none, none, none]) := by
    unfold mDc
    rw [s1, Option.bind_some, f1']
    rfl
  have m2 : mDc (mLc2 (mIt (mVar 1)) (bName 4) mYes (mIt (mSl (mVar 4) (mPart (mC (.int 1))) mNoPart)) (bName 5) mYes (mPair (mVar 5) (mC (.bool true))) [4, 5] [5]) [some (.val (.list mem)), some (.val (.list L)), some (.val (dictOf first)), none, none, none] = some (dictOf later, [some (.val (.list mem)), some (.val (.list L)), some (.val (dictOf first)), none, none, none]) := by
    unfold mDc
    rw [s2, Option.bind_some, l1']
    rfl
  simp [f_all_groups, M_all_groups, runP_def, startE, m1, m2, b1, b2, s3]
theorem up_head {x : D} {xs : List D} (u : Up (x :: xs)) : x ∉ xs := fun h => by
  have := (List.pairwise_cons.mp u).1 x h
  rw [lt_irrefl] at this
  cases this
/-- what is found for each member: its part, if none stands ahead of it there -/
theorem part_of {mem out L : List D} (h : MemOk mem) (hu : Up mem) (ho : ∀ d ∈ out, PairOf mem d) (iL : IsL (out.map prD) L) {first later : List (Nk × D)} (f3 : first.map (fun p => (p.1.data, p.2)) = L.map (fun r => (fstD r, r))) (l3 : later.map (fun p => (p.1.data, p.2)) = L.flatMap (fun r => (tailD r).map fun m => (m, .bool true))) :
    IsPart mem (out.map prD) ((mem.filter fun m => !(atD later m).isSome).map fun m => (atD first m).getD (.tuple [m])) := by
  have sm : ∀ {x : D}, Seen (out.map prD) x → x ∈ mem := fun q => seen_mem ho q
  -- two groups with a common member are one
  have one : ∀ {xs ys : List D} {x : D}, .tuple xs ∈ L → .tuple ys ∈ L → x ∈ xs → x ∈ ys → xs = ys := fun {xs ys x} h1 h2 m1 m2 => by
    obtain ⟨_, e, _, u1, c1⟩ := iL.cls _ h1
    cases e
    obtain ⟨_, e, _, u2, c2⟩ := iL.cls _ h2
    cases e
    exact pw_same u1 u2 fun y => by rw [(c1 x m1).2 y, (c2 x m2).2 y]
  have lat : ∀ {m : D}, m ∈ mem → ((atD later m).isSome = true ↔ ∃ x xs, .tuple (x :: xs) ∈ L ∧ m ∈ xs) := fun {m} hm => by
    obtain ⟨k, hk⟩ := tk_mem h hm
    have mm : ∀ d, (m, d) ∈ (L.flatMap fun r => (tailD r).map fun m => (m, PyData.bool true)) ↔ (d = .bool true ∧ ∃ x xs, .tuple (x :: xs) ∈ L ∧ m ∈ xs) := fun d => by
      rw [List.mem_flatMap]
      constructor
      · rintro ⟨r, hr, q⟩
        obtain ⟨z, hz, e⟩ := List.mem_map.mp q
        obtain ⟨e1, e2⟩ := Prod.mk.inj e
        subst e1
        refine ⟨e2.symm, ?_⟩
        unfold tailD at hz
        split at hz
        · exact ⟨_, _, hr, hz⟩
        · cases hz
      · rintro ⟨rfl, x, xs, q1, q2⟩
        exact ⟨_, q1, List.mem_map.mpr ⟨m, q2, rfl⟩⟩
    constructor
    · intro q
      obtain ⟨d, hd⟩ := Option.isSome_iff_exists.mp q
      exact ((mm d).mp (atD_some l3 hd)).2
    · intro q
      cases e : atD later m with
      | some _ => rfl
      | none => exact absurd ((mm (.bool true)).mpr ⟨rfl, q⟩) (atD_none l3 hk e)
  have fir : ∀ {m : D}, m ∈ mem → (∃ xs, .tuple (m :: xs) ∈ L ∧ (atD first m).getD (.tuple [m]) = .tuple (m :: xs)) ∨ ((∀ xs, .tuple (m :: xs) ∉ L) ∧ (atD first m).getD (.tuple [m]) = .tuple [m]) := fun {m} hm => by
    obtain ⟨k, hk⟩ := tk_mem h hm
    cases e : atD first m with
    | some d =>
      obtain ⟨r, hr, q⟩ := List.mem_map.mp (atD_some f3 e)
      obtain ⟨e1, e2⟩ := Prod.mk.inj q
      subst e2
      obtain ⟨xs, rfl, ne, _⟩ := iL.cls r hr
      cases xs with
      | nil => exact absurd rfl ne
      | cons x xs =>
        have e1 : x = m := e1
        subst e1
        exact .inl ⟨xs, hr, rfl⟩
    | none =>
      refine .inr ⟨fun xs q => ?_, rfl⟩
      exact atD_none (d := .tuple (m :: xs)) f3 hk e (List.mem_map.mpr ⟨_, q, rfl⟩)
  have cls : ∀ {m : D}, m ∈ mem → (atD later m).isSome = false → ∃ xs, (atD first m).getD (.tuple [m]) = .tuple (m :: xs) ∧ Up (m :: xs) ∧ (∀ x ∈ m :: xs, x ∈ mem ∧ ∀ y, y ∈ m :: xs ↔ Conn (out.map prD) x y) := fun {m} hm hn => by
    rcases fir hm with ⟨xs, q1, q2⟩ | ⟨q1, q2⟩
    · obtain ⟨_, e, _, u, c⟩ := iL.cls _ q1
      cases e
      exact ⟨xs, q2, u, fun x hx => ⟨sm (c x hx).1, (c x hx).2⟩⟩
    · have us : ¬ Seen (out.map prD) m := fun s => by
        obtain ⟨xs, w1, w2⟩ := iL.all m s
        cases xs with
        | nil => cases w2
        | cons x xs =>
          rcases List.mem_cons.mp w2 with e | e
          · subst e
            exact q1 _ w1
          · have := (lat hm).mpr ⟨x, xs, w1, e⟩
            rw [hn] at this
            cases this
      refine ⟨[], q2, List.pairwise_singleton _ _, fun x hx => ?_⟩
      simp only [List.mem_singleton] at hx
      subst hx
      exact ⟨hm, fun y => by rw [List.mem_singleton]; exact (Conn.unseen us).symm⟩
  refine ⟨?_, fun r hr => ?_, fun x hx => ?_⟩
  · refine List.pairwise_map.mpr ((hu.filter _).imp_of_mem fun {a b} ha hb lt => ?_)
    obtain ⟨a1, a2⟩ := List.mem_filter.mp ha
    obtain ⟨b1, b2⟩ := List.mem_filter.mp hb
    obtain ⟨xs, e1, _⟩ := cls a1 (by simpa using a2)
    obtain ⟨ys, e2, _⟩ := cls b1 (by simpa using b2)
    rw [e1, e2]
    exact lt_head (mem_alike h a1 b1) lt
  · obtain ⟨m, hm, rfl⟩ := List.mem_map.mp hr
    obtain ⟨a1, a2⟩ := List.mem_filter.mp hm
    obtain ⟨xs, e1, u, c⟩ := cls a1 (by simpa using a2)
    exact ⟨_, e1, List.cons_ne_nil _ _, u, c⟩
  · -- the first of x's part
    have main : ∀ {m : D}, m ∈ mem → (atD later m).isSome = false → Conn (out.map prD) m x → ∃ xs, .tuple xs ∈ (mem.filter fun m => !(atD later m).isSome).map (fun m => (atD first m).getD (.tuple [m])) ∧ x ∈ xs := fun {m} hm hn cn => by
      obtain ⟨xs, e1, u, c⟩ := cls hm hn
      refine ⟨m :: xs, List.mem_map.mpr ⟨m, List.mem_filter.mpr ⟨hm, by simp [hn]⟩, e1⟩, ?_⟩
      exact ((c m (List.mem_cons_self ..)).2 x).mpr cn
    cases e : (atD later x).isSome with
    | false => exact main hx e (.refl _)
    | true =>
      obtain ⟨y, ys, w1, w2⟩ := (lat hx).mp e
      obtain ⟨_, e', _, u, c⟩ := iL.cls _ w1
      cases e'
      have hy := sm (c y (List.mem_cons_self ..)).1
      refine main hy ?_ (((c y (List.mem_cons_self ..)).2 x).mp (List.mem_cons_of_mem _ w2))
      cases e2 : (atD later y).isSome with
      | false => rfl
      | true =>
        obtain ⟨z, zs, v1, v2⟩ := (lat hy).mp e2
        have := one w1 v1 (List.mem_cons_self ..) (List.mem_cons_of_mem _ v2)
        injection this with t1 t2
        subst t1 t2
        exact absurd v2 (up_head u)
theorem kinds_ok {fs out : List D} (hf : Drawn fs) (ho : ∀ d ∈ out, PairOf (colsL fs) d) (hl : out.length ≤ 12) : ∃ R, f_kinds [.tuple fs, .tuple out] = some (.new R) ∧ IsPart (colsL fs) (out.map prD) R := by
  obtain ⟨L, e1, iL⟩ := linked_ok hf.cols ho (by omega)
  have hc := hf.cols
  have hlen := hf.len
  have gr : ∀ r ∈ L, Grp (colsL fs) r := fun r hr => by
    obtain ⟨xs, rfl, ne, _, c⟩ := iL.cls r hr
    cases xs with
    | nil => exact absurd rfl ne
    | cons x xs => exact ⟨x, xs, rfl, seen_mem ho (c x (List.mem_cons_self ..)).1, fun y hy => seen_mem ho (c y (List.mem_cons_of_mem _ hy)).1⟩
  have ht : ∀ r ∈ L, (tailD r).length ≤ 100 := fun r hr => by
    obtain ⟨xs, rfl, ne, u, c⟩ := iL.cls r hr
    have : xs.length ≤ 20 := by
      have hn : xs.Nodup := pw_nodup u
      classical
      have := nodup_le (m := colsL fs) hn fun x hx => seen_mem ho (c x hx).1
      omega
    cases xs with
    | nil => exact absurd rfl ne
    | cons x xs =>
      show xs.length ≤ 100
      rw [List.length_cons] at this
      omega
  obtain ⟨first, later, f3, l3, e2⟩ := e_all_groups hc (by omega) gr (by have := iL.len; omega) ht
  refine ⟨_, ?_, part_of hc hf.up ho iL f3 l3⟩
  have e0 := e_columns_of hf.sh hf.four
  simp [f_kinds, M_kinds, runP_def, startE, e0, e1, toD, mCallN, e2]
end PB

set_option maxHeartbeats 4000000
/-! k02: the odd ones. -/
namespace PB
open PySem PySem.Spec PyProof.Rows L2
open PySem.W (alike alikeAll dataLt dataLe keyToks keyToksAll AllAlike Sortable EachIs)
def keyF : D → Key
  | .tuple (.str s :: _) => .inr s
  | _ => .inl 0
def oddB : D → Bool
  | .tuple xs => decide ((uniqK (xs.map keyF)).length < xs.length)
  | _ => false
theorem leafs_mem {mem : List D} (h : MemOk mem) : ∀ {xs : List D}, (∀ x ∈ xs, x ∈ mem) → leafs (xs.map fstD) = some (xs.map keyF)
  | [], _ => rfl
  | x :: xs, hx => by
    obtain ⟨s, b, rfl⟩ := mem_fst h (hx x (List.mem_cons_self ..))
    rw [List.map_cons, leafs, leafs_mem h fun y hy => hx y (List.mem_cons_of_mem _ hy)]
    rfl
theorem cnt_mem {mem : List D} (h : MemOk mem) {xs : List D} (hx : ∀ x ∈ xs, x ∈ mem) (hl : xs.length < 64) : cntU (xs.map fstD) = some (.int (uniqK (xs.map keyF)).length) := by
  unfold cntU
  rw [leafs_mem h hx, Option.bind_some, List.length_map, if_pos hl]
theorem e_is_odd {mem : List D} (h : MemOk mem) {xs : List D} (hx : ∀ x ∈ xs, x ∈ mem) (hl : xs.length < 64) : f_is_odd [.tuple xs] = some (.val (.bool (oddB (.tuple xs)))) := by
  have lc : mLc (mIt (mVar 0)) (bTup 2 (bCons (bName 1) (bCons (bName 2) bNil))) mYes (mVar 1) [1, 2] [some (.val (.tuple xs)), none, none] = some (xs.map fstD, [some (.val (.tuple xs)), none, none]) := by
    rw [lc_pure (items := xs) (fun _ => true) fstD (fun d => match d with | .tuple [a, b] => [some (.val (.tuple xs)), some (.val a), some (.val b)] | _ => []) [some (.val (.tuple xs)), none, none] rfl (by omega) rfl rfl (fun d hd => ?_) (fun d _ => rfl) (fun d hd _ => ?_) (fun d hd => ?_), filter_true]
    all_goals
      obtain ⟨s, b, rfl⟩ := mem_fst h (hx d hd)
      rfl
  have ml : mLenU (mLc (mIt (mVar 0)) (bTup 2 (bCons (bName 1) (bCons (bName 2) bNil))) mYes (mVar 1) [1, 2]) [some (.val (.tuple xs)), none, none] = some (.int (uniqK (xs.map keyF)).length, [some (.val (.tuple xs)), none, none]) := by
    unfold mLenU
    rw [lc, Option.bind_some, cnt_mem h hx hl]
    rfl
  simp [f_is_odd, M_is_odd, runP_def, startE, ml, fLen, dLt, dCmp, oddB]
theorem e_odd_ones {mem R : List D} (h : MemOk mem) (hl : R.length ≤ 1000) (hr : ∀ r ∈ R, ∃ xs, r = .tuple xs ∧ (∀ x ∈ xs, x ∈ mem) ∧ xs.length < 64) : f_law_odd_ones [.list R] = some (.val (.list (R.filter oddB))) := by
  have lc : mLc (mIt (mVar 0)) (bName 1) (mB (mBin dNe (mLenU (mLstO (mNew (mLc (mIt (mVar 1)) (bName 2) mYes (mBin dIx (mVar 2) (mC (.int 0))) [2])))) (mCB fLen (mCons (mVar 1) mNil)))) (mVar 1) [1] [some (.val (.list R)), none, none] = some (R.filter oddB, [some (.val (.list R)), none, none]) := by
    rw [lc_pure (items := R) oddB (fun d => d) (fun d => [some (.val (.list R)), some (.val d), none]) [some (.val (.list R)), none, none] rfl (by omega) rfl rfl (fun d hd => rfl) (fun d hd => ?_) (fun d hd _ => rfl) (fun d hd => rfl), List.map_id']
    obtain ⟨xs, rfl, hx, hn⟩ := hr d hd
    have lc : mLc (mIt (mVar 1)) (bName 2) mYes (mBin dIx (mVar 2) (mC (.int 0))) [2] [some (.val (.list R)), some (.val (.tuple xs)), none] = some (xs.map fstD, [some (.val (.list R)), some (.val (.tuple xs)), none]) := by
      rw [lc_pure (items := xs) (fun _ => true) fstD (fun d => [some (.val (.list R)), some (.val (.tuple xs)), some (.val d)]) [some (.val (.list R)), some (.val (.tuple xs)), none] rfl (by omega) rfl rfl (fun d hd => rfl) (fun d _ => rfl) (fun d hd _ => ?_) (fun d hd => rfl), filter_true]
      obtain ⟨s, b, rfl⟩ := mem_fst h (hx d hd)
      simp [dIx, fstD]
    have ml : mLenU (mLstO (mNew (mLc (mIt (mVar 1)) (bName 2) mYes (mBin dIx (mVar 2) (mC (.int 0))) [2]))) [some (.val (.list R)), some (.val (.tuple xs)), none] = some (.int (uniqK (xs.map keyF)).length, [some (.val (.list R)), some (.val (.tuple xs)), none]) := by
      unfold mLenU mLstO mNew
      rw [lc]
      simp only [Option.map_some, Option.bind_some, listO]
      rw [cnt_mem h hx hn]
      rfl
    have ul := uniqK_len (xs.map keyF)
    rw [List.length_map] at ul
    have ne : dNe (.int (uniqK (xs.map keyF)).length) (.int xs.length) = some (.bool (oddB (.tuple xs))) := by
      simp only [dNe, shaped_int, Bool.and_self, if_true, eqv_ints, oddB]
      congr 2
      by_cases e : (uniqK (xs.map keyF)).length = xs.length
      · simp [e]
      · have : (uniqK (xs.map keyF)).length < xs.length := by omega
        simp [e, this]
        omega
    simp [ml, fLen, ne, isB]
  simp [f_law_odd_ones, M_law_odd_ones, runP_def, startE, lc]
theorem odd_one (m : D) : oddB (.tuple [m]) = false := by
  simp [oddB, uniqK, addU, hasU]
theorem odd_same {mem out L R : List D} (h : MemOk mem) (ho : ∀ d ∈ out, PairOf mem d) (iL : IsL (out.map prD) L) (iR : IsPart mem (out.map prD) R) : sortOk (L.filter oddB) = true ∧ srt (L.filter oddB) = R.filter oddB := by
  have so : SetOk (L.filter oddB) := set_tuples h (fun d hd => by
    obtain ⟨xs, rfl, _, _, c⟩ := iL.cls d (List.mem_filter.mp hd).1
    exact ⟨xs, rfl, fun x hx => seen_mem ho (c x hx).1⟩) (fun d hd => by
    obtain ⟨xs, rfl, ne, _, _⟩ := iL.cls d (List.mem_filter.mp hd).1
    cases xs with
    | nil => exact absurd rfl ne
    | cons x xs => rfl) (by
    have := List.length_filter_le oddB L
    have := iL.len
    omega)
  refine ⟨so.sort, pw_same (srt_up so.al (iL.nd.filter _)) (iR.up.filter _) fun r => ?_⟩
  rw [(srt_perm _).mem_iff, List.mem_filter, List.mem_filter]
  constructor
  · rintro ⟨q, o⟩
    refine ⟨?_, o⟩
    obtain ⟨xs, rfl, ne, u, c⟩ := iL.cls r q
    obtain ⟨x, hx⟩ := List.exists_mem_of_ne_nil xs ne
    obtain ⟨ys, h1, h2⟩ := iR.all x (seen_mem ho (c x hx).1)
    obtain ⟨_, e, _, u', c'⟩ := iR.cls _ h1
    cases e
    have : xs = ys := pw_same u u' fun y => by rw [(c x hx).2 y, (c' x h2).2 y]
    rw [this]
    exact h1
  · rintro ⟨q, o⟩
    refine ⟨?_, o⟩
    obtain ⟨xs, rfl, ne, u, c⟩ := iR.cls r q
    obtain ⟨x, hx⟩ := List.exists_mem_of_ne_nil xs ne
    by_cases s : Seen (out.map prD) x
    · obtain ⟨ys, h1, h2⟩ := iL.all x s
      obtain ⟨_, e, _, u', c'⟩ := iL.cls _ h1
      cases e
      have : xs = ys := pw_same u u' fun y => by rw [(c x hx).2 y, (c' x h2).2 y]
      rw [this]
      exact h1
    · have : xs = [x] := pw_same u (List.pairwise_singleton _ _) fun y => by
        rw [(c x hx).2 y, Conn.unseen s, List.mem_singleton]
      rw [this, odd_one] at o
      cases o
theorem odd_kinds_ok {fs out R : List D} (hf : Drawn fs) (ho : ∀ d ∈ out, PairOf (colsL fs) d) (hl : out.length ≤ 12) (iR : IsPart (colsL fs) (out.map prD) R) : f_odd_kinds [.tuple fs, .tuple out] = some (.new (R.filter oddB)) := by
  obtain ⟨L, e1, iL⟩ := linked_ok hf.cols ho (by omega)
  have hc := hf.cols
  have hlen := hf.len
  obtain ⟨s1, s2⟩ := odd_same hc ho iL iR
  have lc : mLc (mIt (mCall 1 f_linked (mCons (mVar 1) mNil))) (bName 2) (mTru (mCall 1 f_is_odd (mCons (mVar 2) mNil))) (mVar 2) [2] [some (.val (.tuple fs)), some (.val (.tuple out)), none] = some (L.filter oddB, [some (.val (.tuple fs)), some (.val (.tuple out)), none]) := by
    rw [lc_pure (items := L) oddB (fun d => d) (fun d => [some (.val (.tuple fs)), some (.val (.tuple out)), some (.val d)]) [some (.val (.tuple fs)), some (.val (.tuple out)), none] (by simp [e1, toD, itemsOf]) (by have := iL.len; omega) rfl rfl (fun d hd => rfl) (fun d hd => ?_) (fun d hd _ => rfl) (fun d hd => rfl), List.map_id']
    obtain ⟨xs, rfl, ne, u, c⟩ := iL.cls d hd
    have hx : ∀ x ∈ xs, x ∈ colsL fs := fun x hx => seen_mem ho (c x hx).1
    have : xs.length ≤ 20 := by
      have hn : xs.Nodup := pw_nodup u
      classical
      have := nodup_le (m := colsL fs) hn hx
      omega
    have od := e_is_odd hc hx (by omega)
    simp [od, toD, truth]
  have ms : mSort (mNew (mLc (mIt (mCall 1 f_linked (mCons (mVar 1) mNil))) (bName 2) (mTru (mCall 1 f_is_odd (mCons (mVar 2) mNil))) (mVar 2) [2])) [some (.val (.tuple fs)), some (.val (.tuple out)), none] = some (R.filter oddB, [some (.val (.tuple fs)), some (.val (.tuple out)), none]) := by
    unfold mSort mNew
    rw [lc]
    simp only [Option.map_some, Option.bind_some]
    rw [if_pos s1, s2]
  simp [f_odd_kinds, M_odd_kinds, runP_def, startE, lc, s1, s2]
theorem part_parts {fs out R : List D} (hf : Drawn fs) (iR : IsPart (colsL fs) (out.map prD) R) : R.length ≤ 20 ∧ ∀ r ∈ R, ∃ xs, r = .tuple xs ∧ (∀ x ∈ xs, x ∈ colsL fs) ∧ xs.length ≤ 20 := by
  have hlen := hf.len
  refine ⟨?_, fun r hr => ?_⟩
  · -- the first items of the parts are unlike members
    have nd : (R.map fstD).Nodup := List.pairwise_map.mpr (iR.up.imp_of_mem fun {a b} ha hb lt e => by
      obtain ⟨xs, rfl, ne, u, c⟩ := iR.cls a ha
      obtain ⟨ys, rfl, ne', u', c'⟩ := iR.cls b hb
      cases xs with
      | nil => exact absurd rfl ne
      | cons x xs =>
        cases ys with
        | nil => exact absurd rfl ne'
        | cons y ys =>
          have e : x = y := e
          subst e
          have : x :: xs = x :: ys := pw_same u u' fun z => by rw [(c x (List.mem_cons_self ..)).2 z, (c' x (List.mem_cons_self ..)).2 z]
          rw [this, lt_irrefl] at lt
          cases lt)
    classical
    have := nodup_le (m := colsL fs) nd fun d hd => by
      obtain ⟨r, hr, rfl⟩ := List.mem_map.mp hd
      obtain ⟨xs, rfl, ne, u, c⟩ := iR.cls r hr
      cases xs with
      | nil => exact absurd rfl ne
      | cons x xs => exact (c x (List.mem_cons_self ..)).1
    rw [List.length_map] at this
    omega
  · obtain ⟨xs, rfl, ne, u, c⟩ := iR.cls r hr
    refine ⟨xs, rfl, fun x hx => (c x hx).1, ?_⟩
    classical
    have := nodup_le (m := colsL fs) (pw_nodup u) fun x hx => (c x hx).1
    omega
end PB

set_option maxHeartbeats 4000000
/-! k02: what hangs together, as the law finds it. -/
namespace PB
open PySem PySem.Spec PyProof.Rows L2
open PySem.W (alike alikeAll dataLt dataLe keyToks keyToksAll AllAlike Sortable EachIs)
theorem mem_eqv {mem : List D} (h : MemOk mem) {x y : D} (hx : x ∈ mem) (hy : y ∈ mem) : PyData.eqv x y = true ↔ x = y := by
  obtain ⟨k, hk⟩ := tk_mem h hx
  obtain ⟨j, hj⟩ := tk_mem h hy
  rw [(tkOf_some hk).1, (tkOf_some hj).1, eqv_nk, beq_nk]
  exact ⟨fun e => by rw [e], data_inj⟩
theorem mem_isIn {mem : List D} (h : MemOk mem) {y : D} {l : List D} (hy : y ∈ mem) (hl : ∀ x ∈ l, x ∈ mem) : isIn y l = true ↔ y ∈ l := by
  unfold isIn
  rw [List.any_eq_true]
  constructor
  · rintro ⟨x, hx, e⟩
    rw [mem_eqv h (hl x hx) hy] at e
    exact e ▸ hx
  · intro q
    exact ⟨y, q, (mem_eqv h hy hy).mpr rfl⟩
theorem dIn_mem {mem : List D} (h : MemOk mem) {y : D} {l : List D} (hy : y ∈ mem) (hl : ∀ x ∈ l, x ∈ mem) : dIn y (.list l) = some (.bool (isIn y l)) ∧ dNotIn y (.list l) = some (.bool (!isIn y l)) := by
  have s1 : SeqAt.shaped y = true := fine_shaped (h.fin y hy) (by decide)
  have s2 : SeqAt.shaped (.list l) = true := shaped_list (W := 1000) (n := 1) (fun d hd => h.fin d (hl d hd)) (by decide)
  unfold dIn dNotIn
  rw [s1, s2]
  exact ⟨rfl, rfl⟩
def nearT (z : D) : D → Bool
  | .tuple [a, b] => isIn z [a, b]
  | _ => false
def nearG (z : D) : D → D
  | .tuple [a, b] => if PyData.eqv a z = true then b else a
  | d => d
def nearL (out : List D) (z : D) : List D := (out.filter (nearT z)).map (nearG z)
theorem near_adj {mem out : List D} (h : MemOk mem) (ho : ∀ d ∈ out, PairOf mem d) {z : D} (hz : z ∈ mem) (y : D) : y ∈ nearL out z ↔ Adj (out.map prD) z y := by
  unfold nearL Adj
  constructor
  · intro q
    obtain ⟨d, hd, e⟩ := List.mem_map.mp q
    obtain ⟨d1, d2⟩ := List.mem_filter.mp hd
    obtain ⟨a, b, rfl, ha, hb⟩ := ho d d1
    have mm : (a, b) ∈ out.map prD := List.mem_map.mpr ⟨_, d1, rfl⟩
    have e : (if PyData.eqv a z = true then b else a) = y := e
    by_cases q1 : a = z
    · rw [if_pos ((mem_eqv h ha hz).mpr q1)] at e
      subst e q1
      exact .inl mm
    · rw [if_neg fun w => q1 ((mem_eqv h ha hz).mp w)] at e
      subst e
      have : z ∈ [a, b] := (mem_isIn h hz (fun x hx => by
        simp only [List.mem_cons, List.not_mem_nil, or_false] at hx
        rcases hx with rfl | rfl
        · exact ha
        · exact hb)).mp d2
      simp only [List.mem_cons, List.not_mem_nil, or_false] at this
      rcases this with w | w
      · exact absurd w.symm q1
      · subst w
        exact .inr mm
  · have key : ∀ a b, (a, b) ∈ out.map prD → (.tuple [a, b]) ∈ out ∧ a ∈ mem ∧ b ∈ mem := fun a b q => by
      obtain ⟨d, hd, e⟩ := List.mem_map.mp q
      obtain ⟨a', b', rfl, ha, hb⟩ := ho d hd
      cases e
      exact ⟨hd, ha, hb⟩
    have tt : ∀ a b, a ∈ mem → b ∈ mem → (z = a ∨ z = b) → nearT z (.tuple [a, b]) = true := fun a b ha hb w => by
      refine (mem_isIn h hz (fun x hx => ?_)).mpr ?_
      · simp only [List.mem_cons, List.not_mem_nil, or_false] at hx
        rcases hx with rfl | rfl
        · exact ha
        · exact hb
      · simpa using w
    rintro (q | q)
    · obtain ⟨m, _, hy⟩ := key _ _ q
      refine List.mem_map.mpr ⟨_, List.mem_filter.mpr ⟨m, tt _ _ hz hy (.inl rfl)⟩, ?_⟩
      show (if PyData.eqv z z = true then y else z) = y
      rw [if_pos ((mem_eqv h hz hz).mpr rfl)]
    · obtain ⟨m, hy, _⟩ := key _ _ q
      refine List.mem_map.mpr ⟨_, List.mem_filter.mpr ⟨m, tt _ _ hy hz (.inr rfl)⟩, ?_⟩
      show (if PyData.eqv y z = true then z else y) = y
      by_cases e : y = z
      · rw [if_pos ((mem_eqv h hy hz).mpr e), e]
      · rw [if_neg fun w => e ((mem_eqv h hy hz).mp w)]
/-- the slots within the walk -/
def hE (S P : D) (F : List D) (s3 : Sl) (lt : List D) (i : Nat) (o6 o7 : Option D) : Sg := [some (.val S), some (.val P), some (.own false F), some s3, some (.val (.list lt)), some (.val (.int i)), slo o6, slo o7, none, none, none]
def HeldL (lf : List D) (s : Sl) : Prop := s = .own false lf ∨ s = .val (.list lf)
theorem lc_near {mem out lt F : List D} {S : D} {s3 : Sl} {i : Nat} {o6 o7 : Option D} {z : D} (h : MemOk mem) (ho : ∀ d ∈ out, PairOf mem d) (hl : out.length ≤ 100) (hz : z ∈ mem) (hi : lt[i]? = some z) :
    mLc (mIt (mVar 1)) (bTup 2 (bCons (bName 9) (bCons (bName 10) bNil))) (mB (mBin dIn (mBin dIx (mVar 4) (mVar 5)) (mTup (mCons (mVar 9) (mCons (mVar 10) mNil))))) (mIfE (mB (mBin dEq (mVar 9) (mBin dIx (mVar 4) (mVar 5)))) (mVar 10) (mVar 9)) [9, 10] (hE S (.tuple out) F s3 lt i o6 o7) = some (nearL out z, hE S (.tuple out) F s3 lt i o6 o7) := by
  have ix : dIx (.list lt) (.int (i : Nat)) = some z := by
    show atI lt ((i : Nat) : Int) = some z
    exact atI_nat hi
  have e0 : hE S (.tuple out) F s3 lt i o6 o7 = [some (.val S), some (.val (.tuple out)), some (.own false F), some s3, some (.val (.list lt)), some (.val (.int i)), slo o6, slo o7, none, none, none] := rfl
  have n6 : ∀ o : Option D, isOwn (some (slo o)) = false := fun o => by cases o <;> rfl
  refine lc_pure (items := out) (nearT z) (nearG z) (fun d => match d with | .tuple [a, b] => [some (.val S), some (.val (.tuple out)), some (.own false F), some s3, some (.val (.list lt)), some (.val (.int i)), slo o6, slo o7, none, some (.val a), some (.val b)] | _ => []) (hE S (.tuple out) F s3 lt i o6 o7) rfl (by omega) rfl rfl (fun d hd => ?_) (fun d hd => ?_) (fun d hd ht => ?_) (fun d hd => ?_)
  · obtain ⟨a, b, rfl, ha, hb⟩ := ho d hd
    rfl
  · obtain ⟨a, b, rfl, ha, hb⟩ := ho d hd
    have fz := h.fin z hz
    have s1 : SeqAt.shaped z = true := fine_shaped fz (by decide)
    have s2 : SeqAt.shaped (.tuple [a, b]) = true := fine_shaped (W := 1000) (n := 2) (fine_sq (tup := true) (by simp) fun x hx => by
      simp only [List.mem_cons, List.not_mem_nil, or_false] at hx
      rcases hx with rfl | rfl
      · exact h.fin _ ha
      · exact h.fin _ hb) (by decide)
    have di : dIn z (.tuple [a, b]) = some (.bool (isIn z [a, b])) := by
      unfold dIn
      rw [s1, s2]
      rfl
    have v4 : mVar 4 [some (.val S), some (.val (.tuple out)), some (.own false F), some s3, some (.val (.list lt)), some (.val (.int i)), slo o6, slo o7, none, some (.val a), some (.val b)] = some (.list lt, _) := rfl
    have v5 : mVar 5 [some (.val S), some (.val (.tuple out)), some (.own false F), some s3, some (.val (.list lt)), some (.val (.int i)), slo o6, slo o7, none, some (.val a), some (.val b)] = some (.int i, _) := rfl
    have v9 : mVar 9 [some (.val S), some (.val (.tuple out)), some (.own false F), some s3, some (.val (.list lt)), some (.val (.int i)), slo o6, slo o7, none, some (.val a), some (.val b)] = some (a, _) := rfl
    have v10 : mVar 10 [some (.val S), some (.val (.tuple out)), some (.own false F), some s3, some (.val (.list lt)), some (.val (.int i)), slo o6, slo o7, none, some (.val a), some (.val b)] = some (b, _) := rfl
    have z2 : szOk [a, b].length = true := rfl
    simp only [ev_B, ev_Bin, ev_Tup, ev_Cons, ev_Nil, v4, v5, v9, v10, Option.bind_some, Option.map_some, ix, if_pos z2, di, isB, nearT]
  · obtain ⟨a, b, rfl, ha, hb⟩ := ho d hd
    have de : dEq a z = some (.bool (PyData.eqv a z)) := by
      unfold dEq
      rw [fine_shaped (h.fin z hz) (by decide), fine_shaped (h.fin a ha) (by decide)]
      rfl
    have v4 : mVar 4 [some (.val S), some (.val (.tuple out)), some (.own false F), some s3, some (.val (.list lt)), some (.val (.int i)), slo o6, slo o7, none, some (.val a), some (.val b)] = some (.list lt, _) := rfl
    have v5 : mVar 5 [some (.val S), some (.val (.tuple out)), some (.own false F), some s3, some (.val (.list lt)), some (.val (.int i)), slo o6, slo o7, none, some (.val a), some (.val b)] = some (.int i, _) := rfl
    have v9 : mVar 9 [some (.val S), some (.val (.tuple out)), some (.own false F), some s3, some (.val (.list lt)), some (.val (.int i)), slo o6, slo o7, none, some (.val a), some (.val b)] = some (a, _) := rfl
    have v10 : mVar 10 [some (.val S), some (.val (.tuple out)), some (.own false F), some s3, some (.val (.list lt)), some (.val (.int i)), slo o6, slo o7, none, some (.val a), some (.val b)] = some (b, _) := rfl
    simp only [ev_IfE, ev_B, ev_Bin, v4, v5, v9, Option.bind_some, Option.map_some, ix, de, isB, nearG]
    split
    · exact v10
    · exact v9
  · obtain ⟨a, b, rfl, ha, hb⟩ := ho d hd
    rfl
theorem var3 {S P : D} {F lf lt : List D} {s3 : Sl} {i : Nat} {o6 o7 : Option D} {x : Option Sl} (hs : HeldL lf s3) : mVar 3 [some (.val S), some (.val P), some (.own false F), some s3, some (.val (.list lt)), some (.val (.int i)), slo o6, slo o7, x, none, none] = some (.list lf, [some (.val S), some (.val P), some (.own false F), some (.val (.list lf)), some (.val (.list lt)), some (.val (.int i)), slo o6, slo o7, x, none, none]) := by
  rcases hs with rfl | rfl <;> rfl
theorem go_fresh {mem F lf lt : List D} {S P : D} {i : Nat} {o6 o7 : Option D} (h : MemOk mem) (hf : ∀ x ∈ lf, x ∈ mem) : ∀ (ns : List D) (s3 : Sl), (∀ y ∈ ns, y ∈ mem) → HeldL lf s3 →
    ∃ s3', HeldL lf s3' ∧ lcGo (bName 8) (mB (mBin dIn (mVar 8) (mVar 3))) (mVar 8) [8] ns (hE S P F s3 lt i o6 o7) = some (ns.filter fun y => isIn y lf, hE S P F s3' lt i o6 o7)
  | [], s3, _, hs => ⟨s3, hs, rfl⟩
  | y :: ns, s3, hn, hs => by
    obtain ⟨s3', hs', e⟩ := go_fresh (S := S) (P := P) (F := F) (lt := lt) (i := i) (o6 := o6) (o7 := o7) h hf ns (.val (.list lf)) (fun z hz => hn z (List.mem_cons_of_mem _ hz)) (.inr rfl)
    refine ⟨s3', hs', ?_⟩
    have di := (dIn_mem h (hn y (List.mem_cons_self ..)) hf).1
    have b8 : bName 8 y (hE S P F s3 lt i o6 o7) = some [some (.val S), some (.val P), some (.own false F), some s3, some (.val (.list lt)), some (.val (.int i)), slo o6, slo o7, some (.val y), none, none] := rfl
    have v8 : ∀ s : Sl, mVar 8 [some (.val S), some (.val P), some (.own false F), some s, some (.val (.list lt)), some (.val (.int i)), slo o6, slo o7, some (.val y), none, none] = some (y, [some (.val S), some (.val P), some (.own false F), some s, some (.val (.list lt)), some (.val (.int i)), slo o6, slo o7, some (.val y), none, none]) := fun s => rfl
    have w8 : ∀ s : Sl, wipeC [some (.val S), some (.val P), some (.own false F), some s, some (.val (.list lt)), some (.val (.int i)), slo o6, slo o7, some (.val y), none, none] [8] = some (hE S P F s lt i o6 o7) := fun s => rfl
    unfold lcGo
    rw [b8]
    simp only [Option.bind_some, ev_B, ev_Bin, v8, var3 hs, di, Option.map_some, isB]
    cases q : isIn y lf with
    | true =>
      rw [if_pos rfl, w8, Option.bind_some, e, List.filter_cons, if_pos q]
      rfl
    | false =>
      rw [if_neg Bool.false_ne_true, w8, Option.bind_some, e, List.filter_cons, if_neg (by rw [q]; exact Bool.false_ne_true)]
theorem lc_fresh {mem F lf lt ns : List D} {S P : D} {s3 : Sl} {i : Nat} {o7 : Option D} (h : MemOk mem) (hf : ∀ x ∈ lf, x ∈ mem) (hn : ∀ y ∈ ns, y ∈ mem) (hl : ns.length ≤ 1000) (hs : HeldL lf s3) :
    ∃ s3', HeldL lf s3' ∧ mLc (mIt (mVar 6)) (bName 8) (mB (mBin dIn (mVar 8) (mVar 3))) (mVar 8) [8] (hE S P F s3 lt i (some (.list ns)) o7) = some (ns.filter fun y => isIn y lf, hE S P F s3' lt i (some (.list ns)) o7) := by
  obtain ⟨s3', hs', e⟩ := go_fresh (S := S) (P := P) (F := F) (lt := lt) (i := i) (o6 := some (.list ns)) (o7 := o7) h hf ns s3 hn hs
  refine ⟨s3', hs', ?_⟩
  have mi : mIt (mVar 6) (hE S P F s3 lt i (some (.list ns)) o7) = some (ns, hE S P F s3 lt i (some (.list ns)) o7) := rfl
  have w : wipeC (hE S P F s3 lt i (some (.list ns)) o7) [8] = some (hE S P F s3 lt i (some (.list ns)) o7) := rfl
  unfold mLc
  rw [mi, Option.bind_some, if_pos (show szOk ns.length = true from decide_eq_true (by omega)), w, Option.bind_some, e]
  rfl
def restL (lf fr : List D) : List D := lf.filter fun y => !isIn y fr
theorem lc_rest {mem F lf lt fr : List D} {S P : D} {s3 : Sl} {i : Nat} {o6 : Option D} (h : MemOk mem) (hf : ∀ x ∈ lf, x ∈ mem) (hr : ∀ x ∈ fr, x ∈ mem) (hl : lf.length ≤ 1000) (hs : HeldL lf s3) :
    mLc (mIt (mVar 3)) (bName 8) (mB (mBin dNotIn (mVar 8) (mVar 7))) (mVar 8) [8] (hE S P F s3 lt i o6 (some (.list fr))) = some (restL lf fr, hE S P F (.val (.list lf)) lt i o6 (some (.list fr))) := by
  have mi : mIt (mVar 3) (hE S P F s3 lt i o6 (some (.list fr))) = some (lf, hE S P F (.val (.list lf)) lt i o6 (some (.list fr))) := by
    rcases hs with rfl | rfl <;> rfl
  have go := lc_pure (mi := fun e => some (lf, e)) (bind := bName 8) (test := mB (mBin dNotIn (mVar 8) (mVar 7))) (elt := mVar 8) (vs := [8]) (e := hE S P F (.val (.list lf)) lt i o6 (some (.list fr))) (items := lf) (fun y => !isIn y fr) (fun y => y) (fun y => [some (.val S), some (.val P), some (.own false F), some (.val (.list lf)), some (.val (.list lt)), some (.val (.int i)), slo o6, some (.val (.list fr)), some (.val y), none, none]) (hE S P F (.val (.list lf)) lt i o6 (some (.list fr))) rfl (by omega) rfl rfl (fun d hd => rfl) (fun y hy => by
      have di := (dIn_mem h (hf y hy) hr).2
      have v8 : mVar 8 [some (.val S), some (.val P), some (.own false F), some (.val (.list lf)), some (.val (.list lt)), some (.val (.int i)), slo o6, some (.val (.list fr)), some (.val y), none, none] = some (y, _) := rfl
      have v7 : mVar 7 [some (.val S), some (.val P), some (.own false F), some (.val (.list lf)), some (.val (.list lt)), some (.val (.int i)), slo o6, some (.val (.list fr)), some (.val y), none, none] = some (.list fr, _) := rfl
      simp only [ev_B, ev_Bin, v8, v7, Option.bind_some, di, Option.map_some, isB]) (fun d hd _ => rfl) (fun d hd => rfl)
  rw [List.map_id'] at go
  unfold mLc at go ⊢
  rw [mi, Option.bind_some]
  simp only [Option.bind_some] at go
  exact go
def hBody : MS := (sSeq (sAsg (mNew (mLc (mIt (mVar 1)) (bTup 2 (bCons (bName 9) (bCons (bName 10) bNil))) (mB (mBin dIn (mBin dIx (mVar 4) (mVar 5)) (mTup (mCons (mVar 9) (mCons (mVar 10) mNil))))) (mIfE (mB (mBin dEq (mVar 9) (mBin dIx (mVar 4) (mVar 5)))) (mVar 10) (mVar 9)) [9, 10])) (bName 6))
    (sSeq (sAsg (mNew (mSortSet (mNew (mLc (mIt (mVar 6)) (bName 8) (mB (mBin dIn (mVar 8) (mVar 3))) (mVar 8) [8])))) (bName 7))
    (sSeq (sAsgOwn 3 (mLc (mIt (mVar 3)) (bName 8) (mB (mBin dNotIn (mVar 8) (mVar 7))) (mVar 8) [8]))
    (sSeq (sAsg (mBin dAdd (mVar 4) (mVar 7)) (bName 4))
    (sAsg (mBin dAdd (mVar 5) (mC (.int 1))) (bName 5))))))
theorem body_ok {mem out F lf lt : List D} {S z : D} {i : Nat} {o6 o7 : Option D} (h : MemOk mem) (ho : ∀ d ∈ out, PairOf mem d) (hl : out.length ≤ 31) (hz : lt[i]? = some z) (hlt : ∀ x ∈ lt, x ∈ mem) (hlf : ∀ x ∈ lf, x ∈ mem) (l1 : lt.length ≤ 1000) (l2 : lf.length ≤ 1000) :
    ∃ fr, (∀ y, y ∈ fr ↔ Adj (out.map prD) z y ∧ y ∈ lf) ∧ fr.Nodup ∧ hBody (hE S (.tuple out) F (.own false lf) lt i o6 o7) = some (.next, hE S (.tuple out) F (.own false (restL lf fr)) (lt ++ fr) (i + 1) (some (.list (nearL out z))) (some (.list fr))) := by
  have zm : z ∈ mem := hlt z (List.mem_of_getElem? hz)
  have nl : (nearL out z).length ≤ out.length := by
    unfold nearL
    rw [List.length_map]
    exact List.length_filter_le _ _
  have nm : ∀ y ∈ nearL out z, y ∈ mem := fun y hy => by
    have := (near_adj h ho zm y).mp hy
    exact seen_mem ho this.seen.2
  have s1 := lc_near (S := S) (F := F) (s3 := .own false lf) (o6 := o6) (o7 := o7) h ho (by omega) zm hz
  obtain ⟨s3', hs', s2⟩ := lc_fresh (S := S) (P := .tuple out) (F := F) (lt := lt) (i := i) (o7 := o7) h hlf nm (by omega) (.inl rfl)
  have fl : ((nearL out z).filter fun y => isIn y lf).length ≤ 31 := Nat.le_trans (List.length_filter_le _ _) (by omega)
  obtain ⟨fr, f1, f2, f3, f4⟩ := sortset_ok (c := .list ((nearL out z).filter fun y => isIn y lf)) rfl (set_mems h (fun d hd => nm d (List.mem_filter.mp hd).1) (Nat.lt_of_le_of_lt fl (by decide)))
  have f5 : fr.length ≤ 31 := Nat.le_trans f4 fl
  have frm : ∀ x ∈ fr, x ∈ mem := fun x hx => nm x (List.mem_filter.mp ((f3 x).mp hx)).1
  have s3 := lc_rest (S := S) (P := .tuple out) (F := F) (lt := lt) (i := i) (o6 := some (.list (nearL out z))) h hlf frm (by omega) hs'
  refine ⟨fr, fun y => ?_, pw_nodup f2, ?_⟩
  · rw [f3 y, List.mem_filter]
    constructor
    · rintro ⟨a, b⟩
      exact ⟨(near_adj h ho zm y).mp a, (mem_isIn h (nm y a) hlf).mp b⟩
    · rintro ⟨a, b⟩
      exact ⟨(near_adj h ho zm y).mpr a, (mem_isIn h (hlf y b) hlf).mpr b⟩
  · have c1 : sAsg (mNew (mLc (mIt (mVar 1)) (bTup 2 (bCons (bName 9) (bCons (bName 10) bNil))) (mB (mBin dIn (mBin dIx (mVar 4) (mVar 5)) (mTup (mCons (mVar 9) (mCons (mVar 10) mNil))))) (mIfE (mB (mBin dEq (mVar 9) (mBin dIx (mVar 4) (mVar 5)))) (mVar 10) (mVar 9)) [9, 10])) (bName 6) (hE S (.tuple out) F (.own false lf) lt i o6 o7) = some (.next, hE S (.tuple out) F (.own false lf) lt i (some (.list (nearL out z))) o7) := by
      unfold sAsg mNew
      rw [s1]
      simp only [Option.map_some, Option.bind_some]
      have : ∀ o : Option D, isPar (some (slo o)) = false := fun o => by cases o <;> rfl
      unfold bName hE
      simp [this]
      rfl
    have c2 : sAsg (mNew (mSortSet (mNew (mLc (mIt (mVar 6)) (bName 8) (mB (mBin dIn (mVar 8) (mVar 3))) (mVar 8) [8])))) (bName 7) (hE S (.tuple out) F (.own false lf) lt i (some (.list (nearL out z))) o7) = some (.next, hE S (.tuple out) F s3' lt i (some (.list (nearL out z))) (some (.list fr))) := by
      unfold sAsg mNew mSortSet
      dsimp only
      rw [s2]
      simp only [Option.map_some, Option.bind_some, f1]
      have : ∀ o : Option D, isPar (some (slo o)) = false := fun o => by cases o <;> rfl
      unfold bName hE
      simp [this]
      rfl
    have c3 : sAsgOwn 3 (mLc (mIt (mVar 3)) (bName 8) (mB (mBin dNotIn (mVar 8) (mVar 7))) (mVar 8) [8]) (hE S (.tuple out) F s3' lt i (some (.list (nearL out z))) (some (.list fr))) = some (.next, hE S (.tuple out) F (.own false (restL lf fr)) lt i (some (.list (nearL out z))) (some (.list fr))) := by
      unfold sAsgOwn
      rw [s3]
      rfl
    have ad : dAdd (.list lt) (.list fr) = some (.list (lt ++ fr)) := by
      show (if szOk (lt.length + fr.length) = true then _ else _) = _
      rw [if_pos (show szOk _ = true from decide_eq_true (by omega))]
    have c4 : sAsg (mBin dAdd (mVar 4) (mVar 7)) (bName 4) (hE S (.tuple out) F (.own false (restL lf fr)) lt i (some (.list (nearL out z))) (some (.list fr))) = some (.next, hE S (.tuple out) F (.own false (restL lf fr)) (lt ++ fr) i (some (.list (nearL out z))) (some (.list fr))) := by
      have v4 : mVar 4 (hE S (.tuple out) F (.own false (restL lf fr)) lt i (some (.list (nearL out z))) (some (.list fr))) = some (.list lt, hE S (.tuple out) F (.own false (restL lf fr)) lt i (some (.list (nearL out z))) (some (.list fr))) := rfl
      have v7 : mVar 7 (hE S (.tuple out) F (.own false (restL lf fr)) lt i (some (.list (nearL out z))) (some (.list fr))) = some (.list fr, hE S (.tuple out) F (.own false (restL lf fr)) lt i (some (.list (nearL out z))) (some (.list fr))) := rfl
      unfold sAsg mBin
      rw [v4]
      simp only [Option.bind_some]
      rw [v7]
      simp only [Option.bind_some, ad, Option.map_some]
      rfl
    have c5 : sAsg (mBin dAdd (mVar 5) (mC (.int 1))) (bName 5) (hE S (.tuple out) F (.own false (restL lf fr)) (lt ++ fr) i (some (.list (nearL out z))) (some (.list fr))) = some (.next, hE S (.tuple out) F (.own false (restL lf fr)) (lt ++ fr) (i + 1) (some (.list (nearL out z))) (some (.list fr))) := rfl
    unfold hBody sSeq
    rw [c1]
    simp only [Option.bind_some]
    rw [c2]
    simp only [Option.bind_some]
    rw [c3]
    simp only [Option.bind_some]
    rw [c4]
    simp only [Option.bind_some]
    rw [c5]
end PB

set_option maxHeartbeats 4000000
/-! k02: what hangs together, as the law finds it: the loops. -/
namespace PB
open PySem PySem.Spec PyProof.Rows L2
open PySem.W (alike alikeAll dataLt dataLe keyToks keyToksAll AllAlike Sortable EachIs)
structure HI (mem : List D) (P : List (D × D)) (x0 : D) (lt lf : List D) (i : Nat) : Prop where
  m1 : ∀ x ∈ lt, x ∈ mem
  m2 : ∀ x ∈ lf, x ∈ mem
  n1 : lt.Nodup
  n2 : lf.Nodup
  dis : ∀ x ∈ lt, x ∉ lf
  le : i ≤ lt.length
  st : x0 ∈ lt
  conn : ∀ x ∈ lt, Conn P x0 x
  done : ∀ j z, j < i → lt[j]? = some z → ∀ y, Adj P z y → y ∈ lt
  clo : ∀ x, x ∈ lt ∨ x ∈ lf → ∀ y, Adj P x y → y ∈ lt ∨ y ∈ lf
theorem HI.len {mem : List D} {P : List (D × D)} {x0 : D} {lt lf : List D} {i : Nat} (h : HI mem P x0 lt lf i) : lt.length + lf.length ≤ mem.length := by
  classical
  have := nodup_le (l := lt ++ lf) (m := mem) (List.nodup_append.mpr ⟨h.n1, h.n2, fun a ha b hb e => h.dis a ha (e ▸ hb)⟩) fun x hx => (List.mem_append.mp hx).elim (h.m1 x) (h.m2 x)
  rwa [List.length_append] at this
def hTest : MT := mB (mBin dLt (mVar 5) (mCB fLen (mCons (mVar 4) mNil)))
theorem test_ok {S P : D} {F lt : List D} {s3 : Sl} {i : Nat} {o6 o7 : Option D} : hTest (hE S P F s3 lt i o6 o7) = some (decide (i < lt.length), hE S P F s3 lt i o6 o7) := by
  have v4 : mVar 4 (hE S P F s3 lt i o6 o7) = some (.list lt, hE S P F s3 lt i o6 o7) := rfl
  have v5 : mVar 5 (hE S P F s3 lt i o6 o7) = some (.int i, hE S P F s3 lt i o6 o7) := rfl
  unfold hTest
  simp [v4, v5, fLen, dLt, dCmp, isB]
theorem rest_mem {mem lf fr : List D} (h : MemOk mem) (h1 : ∀ x ∈ lf, x ∈ mem) (h2 : ∀ x ∈ fr, x ∈ mem) (y : D) : y ∈ restL lf fr ↔ y ∈ lf ∧ y ∉ fr := by
  unfold restL
  rw [List.mem_filter]
  constructor
  · rintro ⟨a, b⟩
    refine ⟨a, fun c => ?_⟩
    rw [(mem_isIn h (h1 y a) h2).mpr c] at b
    cases b
  · rintro ⟨a, b⟩
    refine ⟨a, ?_⟩
    cases e : isIn y fr with
    | false => rfl
    | true => exact absurd ((mem_isIn h (h1 y a) h2).mp e) b
theorem inner_ok {mem out : List D} (h : MemOk mem) (hm : mem.length ≤ 1000) (ho : ∀ d ∈ out, PairOf mem d) (hl : out.length ≤ 31) {S : D} {F : List D} {x0 : D} : ∀ (n i : Nat) (lt lf : List D) (o6 o7 : Option D), HI mem (out.map prD) x0 lt lf i → mem.length - i < n →
    ∃ lt' lf' o6' o7', whileGo hTest hBody n (hE S (.tuple out) F (.own false lf) lt i o6 o7) = some (.next, hE S (.tuple out) F (.own false lf') lt' lt'.length o6' o7') ∧ HI mem (out.map prD) x0 lt' lf' lt'.length ∧ (∀ x, (x ∈ lt ∨ x ∈ lf) ↔ (x ∈ lt' ∨ x ∈ lf')) ∧ (∀ x ∈ lf', x ∈ lf)
  | 0, i, lt, lf, o6, o7, _, hn => absurd hn (Nat.not_lt_zero _)
  | n + 1, i, lt, lf, o6, o7, hi, hn => by
    have len := hi.len
    unfold whileGo
    rw [test_ok, Option.bind_some]
    by_cases q : i < lt.length
    · obtain ⟨fr, f1, f2, e⟩ := body_ok (S := S) (F := F) (i := i) (o6 := o6) (o7 := o7) h ho hl (List.getElem?_eq_getElem q) hi.m1 hi.m2 (by omega) (by omega)
      have frl : ∀ x ∈ fr, x ∈ lf := fun x hx => ((f1 x).mp hx).2
      have rm := rest_mem h hi.m2 (fun x hx => hi.m2 x (frl x hx))
      have all : ∀ x, (x ∈ lt ∨ x ∈ lf) ↔ (x ∈ lt ++ fr ∨ x ∈ restL lf fr) := fun x => by
        rw [List.mem_append, rm x]
        constructor
        · rintro (a | a)
          · exact .inl (.inl a)
          · by_cases b : x ∈ fr
            · exact .inl (.inr b)
            · exact .inr ⟨a, b⟩
        · rintro ((a | a) | a)
          · exact .inl a
          · exact .inr (frl x a)
          · exact .inr a.1
      have hz : lt[i] ∈ lt := List.getElem_mem q
      have hi' : HI mem (out.map prD) x0 (lt ++ fr) (restL lf fr) (i + 1) := by
        refine ⟨fun x hx => ?_, fun x hx => hi.m2 x ((rm x).mp hx).1, List.nodup_append.mpr ⟨hi.n1, f2, fun a ha b hb e => hi.dis a ha (e ▸ frl b hb)⟩, hi.n2.filter _, fun x hx hr => ?_, ?_, List.mem_append_left _ hi.st, fun x hx => ?_, fun j z hj hz' y ad => ?_, fun x hx y ad => ?_⟩
        · rcases List.mem_append.mp hx with a | a
          · exact hi.m1 x a
          · exact hi.m2 x (frl x a)
        · obtain ⟨r1, r2⟩ := (rm x).mp hr
          rcases List.mem_append.mp hx with a | a
          · exact hi.dis x a r1
          · exact r2 a
        · rw [List.length_append]; omega
        · rcases List.mem_append.mp hx with a | a
          · exact hi.conn x a
          · exact .step (hi.conn _ hz) ((f1 x).mp a).1
        · by_cases ej : j = i
          · subst ej
            rw [List.getElem?_append_left q, List.getElem?_eq_getElem q] at hz'
            cases hz'
            rcases hi.clo _ (.inl hz) y ad with a | a
            · exact List.mem_append_left _ a
            · exact List.mem_append_right _ ((f1 y).mpr ⟨ad, a⟩)
          · rw [List.getElem?_append_left (by omega)] at hz'
            exact List.mem_append_left _ (hi.done j z (by omega) hz' y ad)
        · exact (all y).mp (hi.clo x ((all x).mpr hx) y ad)
      obtain ⟨lt', lf', o6', o7', e', h', a', s'⟩ := inner_ok h hm ho hl (S := S) (F := F) n (i + 1) (lt ++ fr) (restL lf fr) _ _ hi' (by omega)
      refine ⟨lt', lf', o6', o7', ?_, h', fun x => (all x).trans (a' x), fun x hx => ((rm x).mp (s' x hx)).1⟩
      rw [if_pos (show decide (i < lt.length) = true from decide_eq_true q), e]
      exact e'
    · have : i = lt.length := by have := hi.le; omega
      subst this
      refine ⟨lt, lf, o6, o7, ?_, hi, fun x => Iff.rfl, fun x hx => hx⟩
      rw [if_neg (by simp)]
theorem HI.cls {mem : List D} {P : List (D × D)} {x0 : D} {lt lf : List D} (h : HI mem P x0 lt lf lt.length) (y : D) : y ∈ lt ↔ Conn P x0 y := by
  refine ⟨h.conn y, fun c => ?_⟩
  have x0m := h.st
  induction c with
  | refl => exact x0m
  | step _ ad ih =>
    obtain ⟨j, hj⟩ := List.getElem?_of_mem ih
    exact h.done j _ (List.getElem?_eq_some_iff.mp hj).1 hj _ ad
structure HO (mem : List D) (P : List (D × D)) (F lf : List D) : Prop where
  m : ∀ x ∈ lf, x ∈ mem
  n : lf.Nodup
  clo : ∀ x ∈ lf, ∀ y, Adj P x y → y ∈ lf
  cls : ∀ r ∈ F, ∃ xs, r = .tuple xs ∧ xs ≠ [] ∧ Up xs ∧ ∀ x ∈ xs, x ∈ mem ∧ x ∉ lf ∧ ∀ y, y ∈ xs ↔ Conn P x y
  all : ∀ x ∈ mem, x ∈ lf ∨ ∃ xs, .tuple xs ∈ F ∧ x ∈ xs
  nd : F.Nodup
  len : F.length + lf.length ≤ mem.length
def gE (S P : D) (F lf : List D) (o4 o5 o6 o7 : Option D) : Sg := [some (.val S), some (.val P), some (.own false F), some (.own false lf), slo o4, slo o5, slo o6, slo o7, none, none, none]
def oTest : MT := mB (mNeOwn 3 (mNew (mSz mNil)))
def oBody : MS := sSeq (sAsg (mNew (mSz (mCons (mPop 3 (mC (.int 0))) mNil))) (bName 4)) (sSeq (sAsg (mC (.int 0)) (bName 5)) (sSeq (whileGo hTest hBody 50) (sDrop (mAppend 2 (mCB fTuple (mCons (mNew (mSort (mVar 4))) mNil))))))
theorem oTest_ok {mem : List D} (h : MemOk mem) {S P : D} {F lf : List D} {o4 o5 o6 o7 : Option D} (hf : ∀ x ∈ lf, x ∈ mem) : oTest (gE S P F lf o4 o5 o6 o7) = some (!lf.isEmpty, gE S P F lf o4 o5 o6 o7) := by
  have : mNeOwn 3 (mNew (mSz mNil)) (gE S P F lf o4 o5 o6 o7) = some (.bool (!lf.isEmpty), gE S P F lf o4 o5 o6 o7) := by
    show ((dNe (.list lf) (.list [])).map fun z => (z, gE S P F lf o4 o5 o6 o7)) = _
    rw [dNe_nil (W := 1000) (n := 1) (fun d hd => h.fin d (hf d hd)) (by decide)]
    rfl
  unfold oTest mB
  rw [this]
  rfl
theorem oBody_ok {mem out : List D} (h : MemOk mem) (hm : mem.length < 50) (ho : ∀ d ∈ out, PairOf mem d) (hl : out.length ≤ 31) {S : D} {F lf : List D} {x0 : D} {o4 o5 o6 o7 : Option D} (hi : HO mem (out.map prD) F (x0 :: lf)) :
    ∃ F' lf' o4' o5' o6' o7', oBody (gE S (.tuple out) F (x0 :: lf) o4 o5 o6 o7) = some (.next, gE S (.tuple out) F' lf' o4' o5' o6' o7') ∧ HO mem (out.map prD) F' lf' ∧ lf'.length ≤ lf.length := by
  have x0m := hi.m x0 (List.mem_cons_self ..)
  have nd := List.nodup_cons.mp hi.n
  have len := hi.len
  rw [List.length_cons] at len
  have h0 : HI mem (out.map prD) x0 [x0] lf 0 := by
    refine ⟨fun x hx => ?_, fun x hx => hi.m x (List.mem_cons_of_mem _ hx), by simp, nd.2, fun x hx => ?_, Nat.zero_le _, by simp, fun x hx => ?_, fun j z hj => absurd hj (Nat.not_lt_zero _), fun x hx y ad => ?_⟩
    · simp only [List.mem_singleton] at hx
      rw [hx]; exact x0m
    · simp only [List.mem_singleton] at hx
      rw [hx]; exact nd.1
    · simp only [List.mem_singleton] at hx
      rw [hx]; exact .refl _
    · have := hi.clo x (by simpa using hx) y ad
      simpa using this
  obtain ⟨lt', lf', o6', o7', e, h', a, s⟩ := inner_ok h (by omega) ho hl (S := S) (F := F) 50 0 [x0] lf o6 o7 h0 (by omega)
  have len' := h'.len
  have so := set_mems h h'.m1 (by omega)
  have al : ∀ x, x ∈ x0 :: lf ↔ (x ∈ lt' ∨ x ∈ lf') := fun x => by
    rw [← a x]
    simp
  have cl : ∀ x ∈ lt', ∀ y, y ∈ lt' ↔ Conn (out.map prD) x y := fun x hx y => by
    rw [h'.cls y]
    have := h'.conn x hx
    exact ⟨fun q => this.symm.trans q, fun q => this.trans q⟩
  refine ⟨F ++ [.tuple (srt lt')], lf', some (.list lt'), some (.int lt'.length), o6', o7', ?_, ⟨h'.m2, h'.n2, fun x hx y ad => ?_, fun r hr => ?_, fun x hx => ?_, ?_, ?_⟩, ?_⟩
  · have c1 : sAsg (mNew (mSz (mCons (mPop 3 (mC (.int 0))) mNil))) (bName 4) (gE S (.tuple out) F (x0 :: lf) o4 o5 o6 o7) = some (.next, gE S (.tuple out) F lf (some (.list [x0])) o5 o6 o7) := by
      have : ∀ o : Option D, isPar (some (slo o)) = false := fun o => by cases o <;> rfl
      have pp : mPop 3 (mC (.int 0)) (gE S (.tuple out) F (x0 :: lf) o4 o5 o6 o7) = some (x0, gE S (.tuple out) F lf o4 o5 o6 o7) := rfl
      unfold sAsg mNew mSz mCons
      rw [pp]
      simp only [Option.bind_some, ev_Nil, Option.map_some]
      rw [if_pos (show szOk [x0].length = true from rfl)]
      simp only [Option.map_some, Option.bind_some]
      unfold bName gE
      simp [this]
      rfl
    have c2 : sAsg (mC (.int 0)) (bName 5) (gE S (.tuple out) F lf (some (.list [x0])) o5 o6 o7) = some (.next, hE S (.tuple out) F (.own false lf) [x0] 0 o6 o7) := by
      have : ∀ o : Option D, isPar (some (slo o)) = false := fun o => by cases o <;> rfl
      unfold sAsg bName gE hE
      simp [this]
      rfl
    have c3 : mAppend 2 (mCB fTuple (mCons (mNew (mSort (mVar 4))) mNil)) (hE S (.tuple out) F (.own false lf') lt' lt'.length o6' o7') = some (.none, gE S (.tuple out) (F ++ [.tuple (srt lt')]) lf' (some (.list lt')) (some (.int lt'.length)) o6' o7') := by
      have v4 : mVar 4 (hE S (.tuple out) F (.own false lf') lt' lt'.length o6' o7') = some (.list lt', hE S (.tuple out) F (.own false lf') lt' lt'.length o6' o7') := rfl
      have mc : mCB fTuple (mCons (mNew (mSort (mVar 4))) mNil) (hE S (.tuple out) F (.own false lf') lt' lt'.length o6' o7') = some (.tuple (srt lt'), hE S (.tuple out) F (.own false lf') lt' lt'.length o6' o7') := by
        unfold mCB mCons mNew mSort
        rw [v4]
        simp only [Option.bind_some]
        rw [if_pos so.sort]
        rfl
      show ((mCB fTuple (mCons (mNew (mSort (mVar 4))) mNil) (hE S (.tuple out) F (.own false lf') lt' lt'.length o6' o7')).bind _) = _
      rw [mc, Option.bind_some]
      show (if szOk F.length = true then _ else _) = _
      rw [if_pos (show szOk F.length = true from decide_eq_true (by omega))]
      rfl
    unfold oBody sSeq
    rw [c1]
    simp only [Option.bind_some]
    rw [c2]
    simp only [Option.bind_some]
    rw [e]
    simp only [Option.bind_some]
    unfold sDrop
    rw [c3]
    rfl
  · have := hi.clo x ((al x).mpr (.inr hx)) y ad
    rcases (al y).mp this with q | q
    · have : x ∈ lt' := (h'.cls x).mpr (.step (h'.conn y q) ad.symm)
      exact absurd hx (h'.dis x this)
    · exact q
  · rcases List.mem_append.mp hr with q | q
    · obtain ⟨xs, e1, e2, e3, c⟩ := hi.cls r q
      refine ⟨xs, e1, e2, e3, fun x hx => ⟨(c x hx).1, fun w => (c x hx).2.1 ((al x).mpr (.inr w)), (c x hx).2.2⟩⟩
    · simp only [List.mem_singleton] at q
      subst q
      refine ⟨_, rfl, fun z => ?_, srt_up so.al h'.n1, fun x hx => ?_⟩
      · have := (srt_perm lt').mem_iff.mpr h'.st
        rw [z] at this
        cases this
      · have hx := (srt_perm lt').mem_iff.mp hx
        refine ⟨h'.m1 x hx, h'.dis x hx, fun y => ?_⟩
        rw [(srt_perm lt').mem_iff]
        exact cl x hx y
  · rcases hi.all x hx with q | ⟨xs, q1, q2⟩
    · rcases (al x).mp q with w | w
      · exact .inr ⟨srt lt', by simp, (srt_perm lt').mem_iff.mpr w⟩
      · exact .inl w
    · exact .inr ⟨xs, List.mem_append_left _ q1, q2⟩
  · refine List.nodup_append.mpr ⟨hi.nd, by simp, fun a ha b hb e => ?_⟩
    simp only [List.mem_singleton] at hb
    subst hb e
    obtain ⟨xs, e1, _, _, c⟩ := hi.cls _ ha
    cases e1
    exact (c x0 ((srt_perm lt').mem_iff.mpr h'.st)).2.1 (List.mem_cons_self ..)
  · have : lf'.length ≤ lf.length := by
      classical
      exact nodup_le h'.n2 s
    rw [List.length_append]
    simp only [List.length_cons, List.length_nil]
    omega
  · classical
    exact nodup_le h'.n2 s
theorem outer_ok {mem out : List D} (h : MemOk mem) (hm : mem.length < 50) (ho : ∀ d ∈ out, PairOf mem d) (hl : out.length ≤ 31) {S : D} : ∀ (n : Nat) (F lf : List D) (o4 o5 o6 o7 : Option D), HO mem (out.map prD) F lf → lf.length < n →
    ∃ F' o4' o5' o6' o7', whileGo oTest oBody n (gE S (.tuple out) F lf o4 o5 o6 o7) = some (.next, gE S (.tuple out) F' [] o4' o5' o6' o7') ∧ HO mem (out.map prD) F' []
  | 0, F, lf, o4, o5, o6, o7, _, hn => absurd hn (Nat.not_lt_zero _)
  | n + 1, F, [], o4, o5, o6, o7, hi, hn => by
    refine ⟨F, o4, o5, o6, o7, ?_, hi⟩
    unfold whileGo
    rw [oTest_ok h hi.m]
    rfl
  | n + 1, F, x0 :: lf, o4, o5, o6, o7, hi, hn => by
    obtain ⟨F1, lf1, p4, p5, p6, p7, e1, h1, l1⟩ := oBody_ok h hm ho hl (S := S) (o4 := o4) (o5 := o5) (o6 := o6) (o7 := o7) hi
    rw [List.length_cons] at hn
    obtain ⟨F2, q4, q5, q6, q7, e2, h2⟩ := outer_ok h hm ho hl (S := S) n F1 lf1 p4 p5 p6 p7 h1 (by omega)
    refine ⟨F2, q4, q5, q6, q7, ?_, h2⟩
    unfold whileGo
    rw [oTest_ok h hi.m, Option.bind_some]
    rw [if_pos (show (!(x0 :: lf).isEmpty) = true from rfl), e1]
    exact e2
theorem hung_ok {mem out : List D} (h : MemOk mem) (hu : Up mem) (hm : mem.length < 50) (ho : ∀ d ∈ out, PairOf mem d) (hl : out.length ≤ 31) : ∃ R, f_law_hung [.list mem, .tuple out] = some (.val (.list R)) ∧ IsPart mem (out.map prD) R := by
  have h0 : HO mem (out.map prD) [] mem := ⟨fun x hx => hx, pw_nodup hu, fun x _ y ad => seen_mem ho ad.seen.2, (fun r hr => absurd hr List.not_mem_nil), (fun x hx => .inl hx), List.nodup_nil, by simp⟩
  obtain ⟨F, o4, o5, o6, o7, e, hi⟩ := outer_ok h hm ho hl (S := .list mem) 50 [] mem none none none none h0 (by omega)
  have len := hi.len
  have so : SetOk F := set_tuples h (fun d hd => by
    obtain ⟨xs, rfl, _, _, c⟩ := hi.cls d hd
    exact ⟨xs, rfl, fun x hx => (c x hx).1⟩) (fun d hd => by
    obtain ⟨xs, rfl, ne, _, _⟩ := hi.cls d hd
    cases xs with
    | nil => exact absurd rfl ne
    | cons x xs => rfl) (by omega)
  refine ⟨srt F, ?_, srt_up so.al hi.nd, fun r hr => ?_, fun x hx => ?_⟩
  · have c1 : sAsgOwn 2 (mSz mNil) (startE 11 [.list mem, .tuple out]) = some (.next, [some (.val (.list mem)), some (.val (.tuple out)), some (.own false []), none, none, none, none, none, none, none, none]) := rfl
    have c2 : sAsgOwn 3 (mListOf (mVar 0)) [some (.val (.list mem)), some (.val (.tuple out)), some (.own false []), none, none, none, none, none, none, none, none] = some (.next, gE (.list mem) (.tuple out) [] mem none none none none) := rfl
    have c3 : mSort (mVar 2) (gE (.list mem) (.tuple out) F [] o4 o5 o6 o7) = some (srt F, [some (.val (.list mem)), some (.val (.tuple out)), some (.val (.list F)), some (.own false []), slo o4, slo o5, slo o6, slo o7, none, none, none]) := by
      show (if sortOk F = true then _ else _) = _
      rw [if_pos so.sort]
      rfl
    have e' : whileGo (mB (mNeOwn 3 (mNew (mSz mNil)))) oBody 50 (gE (.list mem) (.tuple out) [] mem none none none none) = _ := e
    show runP 11 M_law_hung _ = _
    rw [runP_def]
    have ee : M_law_hung = sSeq (sAsgOwn 2 (mSz mNil)) (sSeq (sAsgOwn 3 (mListOf (mVar 0))) (sSeq (whileGo (mB (mNeOwn 3 (mNew (mSz mNil)))) oBody 50) (sRet (mNew (mSort (mVar 2)))))) := rfl
    rw [ee]
    unfold sSeq
    rw [c1]
    simp only [Option.bind_some]
    rw [c2]
    simp only [Option.bind_some]
    rw [e']
    simp only [Option.bind_some]
    unfold sRet mNew
    rw [c3]
    rfl
  · obtain ⟨xs, e1, e2, e3, c⟩ := hi.cls r ((srt_perm F).mem_iff.mp hr)
    exact ⟨xs, e1, e2, e3, fun x hx => ⟨(c x hx).1, (c x hx).2.2⟩⟩
  · rcases hi.all x hx with q | ⟨xs, q1, q2⟩
    · cases q
    · exact ⟨xs, (srt_perm F).mem_iff.mpr q1, q2⟩
end PB

set_option maxHeartbeats 4000000
/-! k02: what the law says of likes; what is the same. -/
namespace PB
open PySem PySem.Spec PyProof.Rows L2
open PySem.W (alike alikeAll dataLt dataLe keyToks keyToksAll AllAlike Sortable EachIs)
theorem in_cols {mem : List D} (h : ColMem mem) {a b : D} (q : isIn (.tuple [a, b]) mem = true) : isStr a = true ∧ isStr b = true ∧ (.tuple [a, b]) ∈ mem := by
  obtain ⟨m, hm, e⟩ := isIn_mem q
  obtain ⟨s, c, rfl, _⟩ := h m hm
  rw [eqv_pair, Bool.and_eq_true] at e
  have e1 := eqv_str e.1
  have e2 := eqv_str e.2
  subst e1 e2
  exact ⟨rfl, rfl, hm⟩
theorem e_law_calls {W n : Nat} {mem : List D} {d : D} (h : MemOk mem) (hc : ColMem mem) (hd : fine W n d = true) (hn : n ≤ 60) : f_law_calls [d, .list mem] = some (.val (.bool (callC mem d))) := by
  have hin := dIn_at h hd hn
  cases q : pair d with
  | false =>
    cases d with
    | tuple ds =>
      have e : ¬ ds.length = 2 := fun z => by simp [pair, tupN, z] at q
      have e' : ((ds.length : Int) == 2) = false := by
        rw [beq_eq_false_iff_ne]
        omega
      simp [f_law_calls, M_law_calls, runP_def, startE, dNe, shaped_int, eqv_ints, e', callC_no q]
    | dict k => cases fine_noDict hd
    | _ => simp [f_law_calls, M_law_calls, runP_def, startE, callC]
  | true =>
    obtain ⟨a, b, rfl⟩ := pair_inv q
    obtain ⟨m, rfl, _, hm⟩ := fine_tup hd
    have ha := fine_noDict (hm a (by simp))
    have hb := fine_noDict (hm b (by simp))
    have at1 : atI [a, b] 1 = some b := by simp
    have ne : dNe (.int 2) (.int 2) = some (.bool false) := by simp [dNe, shaped_int, eqv_ints]
    have key : (isStr a && isStr b) = false → isIn (.tuple [a, b]) mem = false := fun z => by
      cases y : isIn (.tuple [a, b]) mem with
      | false => rfl
      | true =>
        obtain ⟨z1, z2, _⟩ := in_cols hc y
        rw [z1, z2] at z
        cases z
    cases sa : isStr a with
    | false =>
      have := key (by rw [sa]; rfl)
      simp [f_law_calls, M_law_calls, runP_def, startE, ne, isi_str ha, sa, callC, this]
    | true =>
      cases sb : isStr b with
      | true => simp [f_law_calls, M_law_calls, runP_def, startE, ne, isi_str ha, isi_str hb, sa, sb, at1, hin, callC]
      | false =>
        have := key (by rw [sa, sb]; rfl)
        simp [f_law_calls, M_law_calls, runP_def, startE, ne, isi_str ha, isi_str hb, sa, sb, at1, callC, this]
def alBody : MS := (sSeq (sIf (mOrT (mNotT (mTru (mIsi "tuple" (mVar 4)))) (mB (mBin dNe (mCB fLen (mCons (mVar 4) mNil)) (mC (.int 2))))) (sRet (mC (.bool false))) sSkip)
    (sSeq (sIf (mOrT (mNotT (mTru (mCall 2 f_law_calls (mCons (mBin dIx (mVar 4) (mC (.int 0))) (mCons (mVar 2) mNil))))) (mOrT (mNotT (mTru (mCall 2 f_law_calls (mCons (mBin dIx (mVar 4) (mC (.int 1))) (mCons (mVar 2) mNil))))) (mB (mBin dGe (mBin dIx (mBin dIx (mVar 4) (mC (.int 0))) (mC (.int 0))) (mBin dIx (mBin dIx (mVar 4) (mC (.int 1))) (mC (.int 0))))))) (sRet (mC (.bool false))) sSkip)
    (sSeq (sIf (mAndT (mB (mBin dIsNot (mVar 3) (mC .none))) (mNotT (mB (mBin dLtA (mVar 3) (mVar 4))))) (sRet (mC (.bool false))) sSkip)
    (sAsg (mVar 4) (bName 3)))))
def lastB (last d : D) : Bool := match last with
  | .none => true
  | l => ltD l d
theorem al_body {W n : Nat} {mem : List D} {a b d last : D} (h : MemOk mem) (hc : ColMem mem) (hd : fine W n d = true) (hn : n ≤ 60) (hl : last = .none ∨ linkB mem last = true) :
    alBody [some (.val a), some (.val b), some (.val (.list mem)), some (.val last), some (.val d)] = if (linkB mem d && lastB last d) = true then some (.next, [some (.val a), some (.val b), some (.val (.list mem)), some (.val d), some (.val d)]) else some (.ret (.val (.bool false)), [some (.val a), some (.val b), some (.val (.list mem)), some (.val last), some (.val d)]) := by
  cases q : pair d with
  | false =>
    rw [linkB_no q]
    cases d with
    | tuple ds =>
      have e : ¬ ds.length = 2 := fun z => by simp [pair, tupN, z] at q
      have e' : ((ds.length : Int) == 2) = false := by
        rw [beq_eq_false_iff_ne]
        omega
      simp [alBody, dNe, shaped_int, eqv_ints, e']
    | dict k => cases fine_noDict hd
    | _ => simp [alBody]
  | true =>
    obtain ⟨x, y, rfl⟩ := pair_inv q
    obtain ⟨m, rfl, _, hm⟩ := fine_tup hd
    have hx := e_law_calls h hc (hm x (by simp)) (by omega)
    have hy := e_law_calls h hc (hm y (by simp)) (by omega)
    rw [callC_B hc] at hx hy
    have ne : dNe (.int 2) (.int 2) = some (.bool false) := by simp [dNe, shaped_int, eqv_ints]
    cases cx : callsB mem x with
    | false => simp [alBody, ne, hx, cx, linkB]
    | true =>
      cases cy : callsB mem y with
      | false => simp [alBody, ne, hx, hy, cx, cy, linkB]
      | true =>
        have mx := callsB_mem h cx
        have my := callsB_mem h cy
        obtain ⟨s, b', rfl⟩ := mem_fst h mx
        obtain ⟨s', b'', rfl⟩ := mem_fst h my
        cases z : sLt s s' with
        | false => simp [alBody, ne, hx, hy, cx, cy, linkB, fstD, ltD_str, z]
        | true =>
          have lk : linkB mem (.tuple [.tuple [.str s, b'], .tuple [.str s', b'']]) = true := by simp [linkB, cx, cy, fstD, ltD_str, z]
          have b3 : bName 3 (.tuple [.tuple [.str s, b'], .tuple [.str s', b'']]) [some (.val a), some (.val b), some (.val (.list mem)), some (.val last), some (.val (.tuple [.tuple [.str s, b'], .tuple [.str s', b'']]))] = some [some (.val a), some (.val b), some (.val (.list mem)), some (.val (.tuple [.tuple [.str s, b'], .tuple [.str s', b'']])), some (.val (.tuple [.tuple [.str s, b'], .tuple [.str s', b'']]))] := rfl
          rw [lk, Bool.true_and]
          rcases hl with rfl | hl
          · simp [alBody, ne, hx, hy, cx, cy, z, dIsNot, isNone, lastB, b3]
          · have lt : dLtA last (.tuple [.tuple [.str s, b'], .tuple [.str s', b'']]) = some (.bool (ltD last (.tuple [.tuple [.str s, b'], .tuple [.str s', b'']]))) := by
              refine Alike.lt (ds := [last, .tuple [.tuple [.str s, b'], .tuple [.str s', b'']]]) (.inr (.inr (tuples_alike h (links_tuples h ?_)))) (by simp) (by simp)
              simp [hl, lk]
            have nn : isNone last = false := by
              cases last <;> first | rfl | cases hl
            have lb : lastB last (.tuple [.tuple [.str s, b'], .tuple [.str s', b'']]) = ltD last (.tuple [.tuple [.str s, b'], .tuple [.str s', b'']]) := by
              cases last <;> first | rfl | cases hl
            rw [lb]
            have isn : dIsNot last .none = some (.bool true) := by
              show some (PyData.bool (!isNone last)) = _
              rw [nn]
              rfl
            cases w : ltD last (.tuple [.tuple [.str s, b'], .tuple [.str s', b'']]) <;> simp [alBody, ne, hx, hy, cx, cy, z, isn, nn, lt, w, b3]
def fromB (last : D) (ds : List D) : Bool := match last with
  | .none => risesB ds
  | l => risesB (l :: ds)
theorem fromB_cons (mem : List D) {last d : D} {ds : List D} (hl : last = .none ∨ linkB mem last = true) (hd : linkB mem d = true) : fromB last (d :: ds) = (lastB last d && fromB d ds) := by
  have e : fromB d ds = risesB (d :: ds) := by
    cases d <;> first | rfl | cases hd
  rw [e]
  rcases hl with rfl | hl
  · rfl
  · cases last <;> first | rfl | cases hl
theorem al_loop {W n : Nat} {mem : List D} {a b : D} (h : MemOk mem) (hc : ColMem mem) (hn : n ≤ 60) : ∀ (ds : List D) (last : D) (s : Option D), (∀ d ∈ ds, fine W n d = true) → (last = .none ∨ linkB mem last = true) →
    ((ds.all (linkB mem) && fromB last ds) = true → ∃ l t, forGo (bName 4) alBody ds [some (.val a), some (.val b), some (.val (.list mem)), some (.val last), slo s] = some (.next, [some (.val a), some (.val b), some (.val (.list mem)), some (.val l), slo t])) ∧
    ((ds.all (linkB mem) && fromB last ds) = false → ∃ e, forGo (bName 4) alBody ds [some (.val a), some (.val b), some (.val (.list mem)), some (.val last), slo s] = some (.ret (.val (.bool false)), e))
  | [], last, s, _, hl => ⟨fun _ => ⟨last, s, rfl⟩, fun q => by rcases hl with rfl | hl
                                                                · cases q
                                                                · cases last <;> first | cases q | cases hl⟩
  | d :: ds, last, s, hf, hl => by
    have bn : bName 4 d [some (.val a), some (.val b), some (.val (.list mem)), some (.val last), slo s] = some [some (.val a), some (.val b), some (.val (.list mem)), some (.val last), some (.val d)] := by cases s <;> rfl
    have hb := al_body (a := a) (b := b) h hc (hf d List.mem_cons_self) hn hl
    rw [forGo, bn, Option.bind_some, hb, List.all_cons]
    cases q : linkB mem d with
    | false =>
      rw [Bool.false_and, Bool.false_and, Bool.false_and, if_neg Bool.false_ne_true]
      exact ⟨(fun z => nomatch z), fun _ => ⟨_, rfl⟩⟩
    | true =>
      rw [Bool.true_and, Bool.true_and, fromB_cons mem hl q]
      cases w : lastB last d with
      | false =>
        rw [Bool.false_and, Bool.and_false, if_neg Bool.false_ne_true]
        exact ⟨(fun z => nomatch z), fun _ => ⟨_, rfl⟩⟩
      | true =>
        rw [Bool.true_and, if_pos rfl]
        exact al_loop (a := a) (b := b) h hc hn ds d (some d) (fun x hx => hf x (List.mem_cons_of_mem _ hx)) (.inr q)
theorem e_law_are_likes {W n : Nat} {hs : List D} {d : D} (h : HsC hs) (hd : fine W n d = true) (hn : n ≤ 60) : f_law_are_likes [.tuple hs, d] = some (.val (.bool (linksB (colsL hs) d))) := by
  have hcol := e_law_columns_of h.sh h.len
  have b2 : bName 2 (.list (colsL hs)) [some (.val (.tuple hs)), some (.val d), none, none, none] = some [some (.val (.tuple hs)), some (.val d), some (.val (.list (colsL hs))), none, none] := rfl
  have b3 : bName 3 .none [some (.val (.tuple hs)), some (.val d), some (.val (.list (colsL hs))), none, none] = some [some (.val (.tuple hs)), some (.val d), some (.val (.list (colsL hs))), some (.val .none), none] := rfl
  have hk := isi_tup (fine_noDict hd)
  cases d with
  | tuple ds =>
    obtain ⟨m, rfl, hl, hm⟩ := fine_tup hd
    by_cases a : ds.length ≤ 12
    · have gt : dGt (.int ds.length) (.int 12) = some (.bool false) := by
        simp [dGt, dCmp]
        omega
      obtain ⟨l1, l2⟩ := al_loop (a := .tuple hs) (b := .tuple ds) h.mc h.col (by omega : m ≤ 60) ds .none none hm (.inl rfl)
      have fb : fromB .none ds = risesB ds := rfl
      have lb : linksB (colsL hs) (.tuple ds) = (ds.all (linkB (colsL hs)) && fromB .none ds) := by
        simp [linksB, a, fb]
      cases q : (ds.all (linkB (colsL hs)) && fromB .none ds) with
      | true =>
        obtain ⟨l, t, e⟩ := l1 q
        have e : forGo (bName 4) alBody ds [some (.val (.tuple hs)), some (.val (.tuple ds)), some (.val (.list (colsL hs))), some (.val .none), none] = _ := e
        unfold alBody at e
        rw [lb, q]
        simp [f_law_are_likes, M_law_are_likes, runP_def, startE, hcol, b2, b3, gt, fLen, e]
      | false =>
        obtain ⟨e', e⟩ := l2 q
        have e : forGo (bName 4) alBody ds [some (.val (.tuple hs)), some (.val (.tuple ds)), some (.val (.list (colsL hs))), some (.val .none), none] = _ := e
        unfold alBody at e
        rw [lb, q]
        simp [f_law_are_likes, M_law_are_likes, runP_def, startE, hcol, b2, b3, gt, fLen, e]
    · have gt : dGt (.int ds.length) (.int 12) = some (.bool true) := by
        simp [dGt, dCmp]
        omega
      simp [f_law_are_likes, M_law_are_likes, runP_def, startE, hcol, b2, b3, gt, fLen, linksB, a]
  | dict k => cases fine_noDict hd
  | _ => simp [f_law_are_likes, M_law_are_likes, runP_def, startE, hcol, b2, b3, linksB]
theorem e_are_likes {W n : Nat} {hs : List D} {d : D} (h : HsC hs) (hd : fine W n d = true) (hn : n ≤ 60) : f_are_likes [.tuple hs, d] = some (.val (.bool (linksB (colsL hs) d))) := by
  have := e_are_links_cc h hd hn
  simp [f_are_likes, M_are_likes, runP_def, startE, this]
end PB

set_option maxHeartbeats 4000000
/-! k02: a thing is the same as itself. -/
namespace PB
open PySem PySem.Spec PyProof.Rows L2
theorem sort_none : f_law_sort [.none] = some (.val (.int 6)) := by simp [f_law_sort, M_law_sort, runP_def, startE]
theorem sort_int (i : Int) : f_law_sort [.int i] = some (.val (.int 2)) := by simp [f_law_sort, M_law_sort, runP_def, startE]
theorem sort_str (s : Str) : f_law_sort [.str s] = some (.val (.int 3)) := by simp [f_law_sort, M_law_sort, runP_def, startE]
theorem sort_list (ds : List D) : f_law_sort [.list ds] = some (.val (.int 4)) := by simp [f_law_sort, M_law_sort, runP_def, startE]
theorem sort_tup (ds : List D) : f_law_sort [.tuple ds] = some (.val (.int 5)) := by simp [f_law_sort, M_law_sort, runP_def, startE]
theorem ne_self (i : Int) : dNe (.int i) (.int i) = some (.bool false) := by simp [dNe, shaped_int, eqv_ints]
theorem lc_same {fr : Fp} {d : D} {ds : List D} (hd : seqOf d = some ds) (hx : ∀ i x, ds[i]? = some x → dIx d (.int (i : Nat)) = some x) (hl : ds.length ≤ 1000) (hf : ∀ x ∈ ds, fr [x, x] = some (.val (.bool true))) :
    mLc (mEnumA (mVar 0)) (bTup 2 (bCons (bName 2) (bCons (bName 3) bNil))) (mNotT (mTru (mCall 2 fr (mCons (mVar 3) (mCons (mBin dIx (mVar 1) (mVar 2)) mNil))))) (mVar 2) [2, 3] [some (.val d), some (.val d), none, none] = some ([], [some (.val d), some (.val d), none, none]) := by
  have fe : ∀ l : List D, (l.filter fun _ => false).map (fun p => fstD p) = [] := fun l => by simp
  rw [lc_pure (items := enumFrom 0 ds) (fun _ => false) fstD (fun p => match p with | .tuple [a, b] => [some (.val d), some (.val d), some (.val a), some (.val b)] | _ => []) [some (.val d), some (.val d), none, none] (by simp [hd]) (by rw [enum_len]; omega) rfl rfl (fun p hp => ?_) (fun p hp => ?_) (fun p hp ht => by cases ht) (fun p hp => ?_), fe]
  · obtain ⟨i, hi⟩ := List.getElem?_of_mem hp
    obtain ⟨x, h1, rfl⟩ := enum_get hi
    rfl
  · obtain ⟨i, hi⟩ := List.getElem?_of_mem hp
    obtain ⟨x, h1, rfl⟩ := enum_get hi
    have hx' := hx i x h1
    have hf' := hf x (List.mem_of_getElem? h1)
    have e : ((0 + i : Nat) : Int) = (i : Int) := by omega
    simp [hx', hf', e]
  · obtain ⟨i, hi⟩ := List.getElem?_of_mem hp
    obtain ⟨x, h1, rfl⟩ := enum_get hi
    rfl
theorem same_refl : ∀ (m n W : Nat) (d : D), n < m → n ≤ 50 → W ≤ 1000 → fine W n d = true → f_law_same m [d, d] = some (.val (.bool true))
  | 0, n, W, d, h, _, _, _ => absurd h (Nat.not_lt_zero _)
  | m + 1, n, W, d, h, hn, hW, hf => by
    have sh := fine_shaped hf (by omega)
    have eq0 : dEq (.list []) (.list []) = some (.bool true) := by
      have := dEq_nil (W := 1) (n := 1) (ds := []) (by simp) (by decide)
      simpa using this
    cases d with
    | none =>
      have e2 : dEq .none .none = some (.bool true) := by simp [dEq, sh, PyData.eqv]
      simp [f_law_same, M_law_same, runP_def, startE, sort_none, ne_self, e2]
    | bool b =>
      have := same_bool b b m
      simpa using this
    | int i =>
      have e2 : dEq (.int i) (.int i) = some (.bool true) := by simp [dEq, sh, PyData.eqv]
      simp [f_law_same, M_law_same, runP_def, startE, sort_int, ne_self, e2]
    | str x =>
      have e2 : dEq (.str x) (.str x) = some (.bool true) := by simp [dEq, sh, PyData.eqv]
      simp [f_law_same, M_law_same, runP_def, startE, sort_str, ne_self, e2]
    | list ds =>
      obtain ⟨k, rfl, hl, hm⟩ := fine_list hf
      have lc := lc_same (fr := f_law_same m) (d := .list ds) (ds := ds) rfl (fun i x q => atI_nat q) (by omega) fun x hx => same_refl m k W x (by omega) (by omega) hW (hm x hx)
      simp [f_law_same, M_law_same, runP_def, startE, sort_list, ne_self, lc, eq0]
    | tuple ds =>
      obtain ⟨k, rfl, hl, hm⟩ := fine_tup hf
      have lc := lc_same (fr := f_law_same m) (d := .tuple ds) (ds := ds) rfl (fun i x q => atI_nat q) (by omega) fun x hx => same_refl m k W x (by omega) (by omega) hW (hm x hx)
      simp [f_law_same, M_law_same, runP_def, startE, sort_tup, ne_self, lc, eq0]
    | dict k => cases fine_noDict hf
end PB

set_option maxHeartbeats 4000000
/-! k02: the law holds. -/
namespace PB
open PySem PySem.Spec PyProof.Rows L2
open PySem.W (alike alikeAll dataLt dataLe keyToks keyToksAll AllAlike Sortable EachIs)
def lA1 : MS := (sAsgOwn 2 (mCallN 2 f_law_deck (mCons (mVar 1) (mCons (mC (.int 2)) mNil))))
def lA2 : MS := (sAsg (mCallK 2 3 f_law_houses (mCons (mC (.int 4)) (mCons (mC (.int 1)) mNil))) (bName 3))
def lA3 : MS := (sAsg (mCall 1 f_law_columns_of (mCons (mVar 3) mNil)) (bName 4))
def lA4 : MS := (sAsg (mNew (mSz mNil)) (bName 5))
def lB5 : MS := (sAsg (mBin dAdd (mVar 5) (mNew (mLc (mIt (mVar 4)) (bName 15) (mB (mBin dLt (mBin dIx (mVar 6) (mC (.int 0))) (mBin dIx (mVar 15) (mC (.int 0))))) (mTup (mCons (mVar 6) (mCons (mVar 15) mNil))) [15]))) (bName 5))
def lA5 : MS := (sFor (mIt (mVar 4)) (bName 6) lB5)
def lA6 : MS := (sAsg (mNew (mSz (mCons (mCB fTuple (mCons (mSl (mVar 5) mNoPart (mPart (mC (.int 12)))) mNil)) (mCons (mCB fTuple (mCons (mSl (mVar 5) mNoPart (mPart (mC (.int 13)))) mNil)) (mCons (mC .none) (mCons (mCallK 2 1 f_law_odd mNil) (mCons (mTup mNil) (mCons (mNew (mSz (mCons (mTup mNil) mNil))) mNil)))))))) (bName 7))
def lT1 : MS := (sAsg (mCallK 2 3 f_law_likes (mCons (mVar 3) (mCons (mBin dEq (mBin dMod (mVar 8) (mC (.int 2))) (mC (.int 0))) mNil))) (bName 10))
def lT2 : MS := (sAsg (mCallK 2 2 (f_law_spoilt 20) (mCons (mVar 10) mNil)) (bName 11))
def lT3 : MS := (sAsg (mBin dAdd (mVar 7) (mNew (mSz (mCons (mVar 10) (mCons (mVar 11) (mCons (mUn dRev (mVar 10)) (mCons (mNew (mListOf (mVar 10))) (mCons (mCB fTuple (mCons (mNew (mLc (mIt (mVar 10)) (bName 16) mYes (mUn dRev (mVar 16)) [16])) mNil)) mNil)))))))) (bName 7))
def lT4 : MS := (sAsg (mCall 2 f_law_hung (mCons (mVar 4) (mCons (mVar 10) mNil))) (bName 12))
def lT5 : MS := (sParN 13 14 (mCallN 2 f_kinds (mCons (mVar 3) (mCons (mVar 10) mNil))) (mCallN 2 f_odd_kinds (mCons (mVar 3) (mCons (mVar 10) mNil))))
def lT6 : MS := (sIf (mNotT (mTru (mBor 13 14 (pCall 2 (f_law_same 20) (pCons (pLst (pCons (pVar 13) (pCons (pVar 14) pNil))) (pCons (pLst (pCons (pVar 12) (pCons (pCall 1 f_law_odd_ones (pCons (pVar 12) pNil)) pNil))) pNil)))))) (sRet (mC (.bool false))) sSkip)
def lT7 : MS := (sDrop (mAppend 13 (mC (.int 1))))
def lT8 : MS := (sDrop (mAppend 14 (mC (.int 1))))
def lT9 : MS := (sIf (mB (mBin dNe (mCall 2 f_kinds (mCons (mVar 3) (mCons (mVar 10) mNil))) (mVar 12))) (sRet (mC (.bool false))) sSkip)
def lTs : MS := (sSeq lT1 (sSeq lT2 (sSeq lT3 (sSeq lT4 (sSeq lT5 (sSeq lT6 (sSeq lT7 (sSeq lT8 lT9))))))))
def lA7 : MS := (sFor (mRange1 (mC (.int 6))) (bName 8) lTs)
def lB8 : MS := (sIf (mNotT (mTru (mCall 2 (f_law_same 20) (mCons (mCall 2 f_are_likes (mCons (mVar 3) (mCons (mVar 9) mNil))) (mCons (mCall 2 f_law_are_likes (mCons (mVar 3) (mCons (mVar 9) mNil))) mNil))))) (sRet (mC (.bool false))) sSkip)
def lA8 : MS := (sFor (mIt (mVar 7)) (bName 9) lB8)
def lAs : MS := (sSeq lA1 (sSeq lA2 (sSeq lA3 (sSeq lA4 (sSeq lA5 (sSeq lA6 (sSeq lA7 lA8)))))))
theorem law_parts : M_law = sSeq (sFor (mIt (mSl (mBin dAdd (mNew (mSz (mCons (mC (.int 0)) mNil))) (mVar 0)) mNoPart (mPart (mC (.int 10))))) (bName 1) lAs) (sRet (mC (.bool true))) := rfl
/-! ### by equations -/
theorem callK_eq {i n : Nat} {f : Fk} {m : ML} {e : Sg} {b : Bool} {dk dk1 args : List D} {x : Rt} (h0 : e[i]? = some (some (.own b dk))) (hm : m e = some (args, e)) (hn : args.length + 1 = n) (hf : f dk args = some (x, dk1)) : mCallK i n f m e = some (toD x, e.set i (some (.own b dk1))) := by
  unfold mCallK
  rw [h0]
  simp only
  rw [hm, Option.bind_some]
  simp only
  rw [h0]
  simp only
  rw [if_pos hn, hf]
  rfl
theorem asg_eq {a : ME} {b : MG} {e e1 e2 : Sg} {d : D} (h1 : a e = some (d, e1)) (h2 : b d e1 = some e2) : sAsg a b e = some (.next, e2) := by
  unfold sAsg
  rw [h1, Option.bind_some, h2]
  rfl
theorem seq_eq {a b : MS} {e e1 : Sg} {r : Option (Out × Sg)} (h1 : a e = some (.next, e1)) (h2 : b e1 = r) : sSeq a b e = r := by
  unfold sSeq
  rw [h1, Option.bind_some]
  exact h2
theorem cons_eq {a : ME} {m : ML} {e e1 e2 : Sg} {d : D} {ds : List D} (h1 : a e = some (d, e1)) (h2 : m e1 = some (ds, e2)) : mCons a m e = some (d :: ds, e2) := by
  rw [ev_Cons, h1, Option.bind_some, h2]
  rfl
theorem newsz_eq {m : ML} {e e1 : Sg} {ds : List D} (h : m e = some (ds, e1)) (hz : ds.length ≤ 1000) : mNew (mSz m) e = some (.list ds, e1) := by
  rw [ev_New, ev_Sz, h, Option.bind_some, if_pos (show szOk ds.length = true from decide_eq_true (by omega))]
  rfl
theorem bin_eq {f : D → D → Option D} {a b : ME} {e e1 e2 : Sg} {x y z : D} (h1 : a e = some (x, e1)) (h2 : b e1 = some (y, e2)) (h3 : f x y = some z) : mBin f a b e = some (z, e2) := by
  rw [ev_Bin, h1, Option.bind_some, h2, Option.bind_some, h3]
  rfl
theorem if_no {t : MT} {a : MS} {e e1 : Sg} (h : t e = some (false, e1)) : sIf t a sSkip e = some (.next, e1) := by
  unfold sIf
  rw [h, Option.bind_some]
  rfl
theorem for_eqs {bind : MG} {body : MS} (I : Nat → Sg → Prop) : ∀ (items : List D) (k : Nat) (e : Sg), I k e → (∀ d ∈ items, ∀ j e, j < k + items.length → I j e → ∃ e1 e2, bind d e = some e1 ∧ body e1 = some (.next, e2) ∧ I (j + 1) e2) → ∃ e', forGo bind body items e = some (.next, e') ∧ I (k + items.length) e'
  | [], k, e, h, _ => ⟨e, rfl, h⟩
  | d :: items, k, e, h, st => by
    obtain ⟨e1, e2, q1, q2, q3⟩ := st d (List.mem_cons_self ..) k e (by rw [List.length_cons]; omega) h
    obtain ⟨e', w1, w2⟩ := for_eqs (bind := bind) (body := body) I items (k + 1) e2 q3 fun x hx j e' hj => st x (List.mem_cons_of_mem _ hx) j e' (by rw [List.length_cons]; omega)
    refine ⟨e', ?_, by rw [List.length_cons, show k + (items.length + 1) = k + 1 + items.length by omega]; exact w2⟩
    rw [forGo, q1, Option.bind_some, q2, Option.bind_some]
    exact w1
theorem deck2_ok (z : Int) : ∃ ds, f_law_deck [.int z, .int 2] = some (.new ds) ∧ DOk 3 ds := by
  have n1 : 0 ≤ z % 2147483579 := Int.emod_nonneg _ (by decide)
  have n2 : z % 2147483579 < 2147483579 := Int.emod_lt_of_pos _ (by decide)
  by_cases h : (1000000000000000000 : Int) ≤ z
  · refine ⟨[.int (z - 1000000000000000000), .int (z % 2147483579), .int 2], ?_, _, _, _, rfl, by omega, n1, n2, by omega, by omega⟩
    simp [f_law_deck, M_law_deck, runP_def, startE, dPow, dMod, iOp, h, szOk]
  · refine ⟨[.int 0, .int (z % 2147483579), .int 2], ?_, _, _, _, rfl, by omega, n1, n2, by omega, by omega⟩
    simp [f_law_deck, M_law_deck, runP_def, startE, dPow, dMod, iOp, h, szOk]
mutual
theorem eqv_self {W : Nat} : ∀ (n : Nat) (d : D), fine W n d = true → PyData.eqv d d = true
  | n, .none, _ => by simp [PyData.eqv]
  | n, .bool _, _ => by simp [PyData.eqv]
  | n, .int _, _ => by simp [PyData.eqv]
  | n, .str _, _ => by simp [PyData.eqv]
  | n, .list ds, h => by
    obtain ⟨m, rfl, _, hm⟩ := fine_list h
    rw [PyData.eqv]
    exact eqv_selfs m ds hm
  | n, .tuple ds, h => by
    obtain ⟨m, rfl, _, hm⟩ := fine_tup h
    rw [PyData.eqv]
    exact eqv_selfs m ds hm
  | n, .dict _, h => by cases fine_noDict h
theorem eqv_selfs {W : Nat} : ∀ (n : Nat) (ds : List D), (∀ d ∈ ds, fine W n d = true) → PyData.eqvAll ds ds = true
  | n, [], _ => by simp [PyData.eqvAll]
  | n, d :: ds, h => by
    rw [PyData.eqvAll, eqv_self n d (h d (List.mem_cons_self ..)), eqv_selfs n ds fun x hx => h x (List.mem_cons_of_mem _ hx)]
    rfl
end
/-- the slots of the law -/
def qE (sc : D) (o1 : Option D) (o2 : Option Sl) (o3 o4 o5 o6 o7 o8 o9 o10 o11 o12 : Option D) (o13 o14 : Option Sl) (o15 o16 : Option D) : Sg :=
  [some (.val sc), slo o1, o2, slo o3, slo o4, slo o5, slo o6, slo o7, slo o8, slo o9, slo o10, slo o11, slo o12, o13, o14, slo o15, slo o16]
abbrev NP (o : Option Sl) : Prop := isPar (some o) = false
section
variable {sc : D} {o1 : Option D} {o2 : Option Sl} {o3 o4 o5 o6 o7 o8 o9 o10 o11 o12 : Option D} {o13 o14 : Option Sl} {dk fs cl ev th out : List D} {z : Int}
theorem a1_ok (z : Int) (h2 : NP o2) : ∃ dk, DOk 3 dk ∧ lA1 (qE sc (some (.int z)) o2 o3 o4 o5 o6 o7 o8 o9 o10 o11 o12 o13 o14 none none) = some (.next, qE sc (some (.int z)) (some (.own false dk)) o3 o4 o5 o6 o7 o8 o9 o10 o11 o12 o13 o14 none none) := by
  obtain ⟨dk, h1, h3⟩ := deck2_ok z
  refine ⟨dk, h3, ?_⟩
  have m1 : mCallN 2 f_law_deck (mCons (mVar 1) (mCons (mC (.int 2)) mNil)) (qE sc (some (.int z)) o2 o3 o4 o5 o6 o7 o8 o9 o10 o11 o12 o13 o14 none none) = some (dk, qE sc (some (.int z)) o2 o3 o4 o5 o6 o7 o8 o9 o10 o11 o12 o13 o14 none none) := by
    show ((f_law_deck [.int z, .int 2]).bind _) = _
    rw [h1]
    rfl
  unfold lA1 sAsgOwn
  rw [m1, Option.bind_some]
  show (if (true && !isPar (some o2)) = true then _ else _) = _
  rw [h2]
  rfl
theorem a2_ok {B : Nat} (hd : DOk B dk) (hB : B ≤ 900000000) : ∃ fs dk1, Drawn fs ∧ DOk (B + 1000) dk1 ∧ lA2 (qE sc o1 (some (.own false dk)) o3 o4 o5 o6 o7 o8 o9 o10 o11 o12 o13 o14 none none) = some (.next, qE sc o1 (some (.own false dk1)) (some (.tuple fs)) o4 o5 o6 o7 o8 o9 o10 o11 o12 o13 o14 none none) := by
  obtain ⟨fs, dk1, h1, h2, h3⟩ := houses_ok (mo := 4) (ro := 1) hd hB (by decide) (by decide) (by decide)
  have h1' : f_law_houses dk [.int 4, .int 1] = some (.val (.tuple fs), dk1) := h1
  refine ⟨fs, dk1, h2, h3, ?_⟩
  unfold lA2
  refine asg_eq (callK_eq (b := false) (dk := dk) rfl rfl rfl h1') ?_
  cases o3 <;> rfl
theorem a3_ok (hf : Drawn fs) : lA3 (qE sc o1 o2 (some (.tuple fs)) o4 o5 o6 o7 o8 o9 o10 o11 o12 o13 o14 none none) = some (.next, qE sc o1 o2 (some (.tuple fs)) (some (.list (colsL fs))) o5 o6 o7 o8 o9 o10 o11 o12 o13 o14 none none) := by
  have h := e_law_columns_of hf.sh hf.four
  unfold lA3
  refine asg_eq (d := .list (colsL fs)) (e1 := qE sc o1 o2 (some (.tuple fs)) o4 o5 o6 o7 o8 o9 o10 o11 o12 o13 o14 none none) ?_ ?_
  · show ((f_law_columns_of [.tuple fs]).map _) = _
    rw [h]
    rfl
  · cases o4 <;> rfl
theorem a4_ok : lA4 (qE sc o1 o2 o3 o4 o5 o6 o7 o8 o9 o10 o11 o12 o13 o14 none none) = some (.next, qE sc o1 o2 o3 o4 (some (.list [])) o6 o7 o8 o9 o10 o11 o12 o13 o14 none none) := by
  unfold lA4
  refine asg_eq (d := .list []) (e1 := qE sc o1 o2 o3 o4 o5 o6 o7 o8 o9 o10 o11 o12 o13 o14 none none) rfl ?_
  cases o5 <;> rfl
def evG (cl : List D) (x : D) : List D := (cl.filter fun y => ltD (fstD x) (fstD y)).map fun y => .tuple [x, y]
theorem b5_ok {x : D} (h : MemOk cl) (hx : x ∈ cl) (hl : cl.length ≤ 20) (hev : ev.length ≤ 1000) : lB5 (qE sc o1 o2 o3 (some (.list cl)) (some (.list ev)) (some x) o7 o8 o9 o10 o11 o12 o13 o14 none none) = some (.next, qE sc o1 o2 o3 (some (.list cl)) (some (.list (ev ++ evG cl x))) (some x) o7 o8 o9 o10 o11 o12 o13 o14 none none) := by
  obtain ⟨s, b, rfl⟩ := mem_fst h hx
  have lc : mLc (mIt (mVar 4)) (bName 15) (mB (mBin dLt (mBin dIx (mVar 6) (mC (.int 0))) (mBin dIx (mVar 15) (mC (.int 0))))) (mTup (mCons (mVar 6) (mCons (mVar 15) mNil))) [15] (qE sc o1 o2 o3 (some (.list cl)) (some (.list ev)) (some (.tuple [.str s, b])) o7 o8 o9 o10 o11 o12 o13 o14 none none) = some (evG cl (.tuple [.str s, b]), qE sc o1 o2 o3 (some (.list cl)) (some (.list ev)) (some (.tuple [.str s, b])) o7 o8 o9 o10 o11 o12 o13 o14 none none) := by
    refine lc_pure (items := cl) (fun y => ltD (fstD (.tuple [.str s, b])) (fstD y)) (fun y => .tuple [.tuple [.str s, b], y]) (fun y => qE sc o1 o2 o3 (some (.list cl)) (some (.list ev)) (some (.tuple [.str s, b])) o7 o8 o9 o10 o11 o12 o13 o14 (some y) none) (qE sc o1 o2 o3 (some (.list cl)) (some (.list ev)) (some (.tuple [.str s, b])) o7 o8 o9 o10 o11 o12 o13 o14 none none) rfl (by omega) rfl rfl (fun y hy => rfl) (fun y hy => ?_) (fun y hy _ => rfl) (fun y hy => rfl)
    obtain ⟨s', b', rfl⟩ := mem_fst h hy
    show some (sLt s s', _) = _
    rw [show ltD (fstD (.tuple [.str s, b])) (fstD (.tuple [.str s', b'])) = sLt s s' from ltD_str s s']
  have gl : (evG cl (.tuple [.str s, b])).length ≤ 20 := by
    unfold evG
    rw [List.length_map]
    exact Nat.le_trans (List.length_filter_le _ _) hl
  unfold lB5
  refine asg_eq (d := .list (ev ++ evG cl (.tuple [.str s, b]))) (e1 := qE sc o1 o2 o3 (some (.list cl)) (some (.list ev)) (some (.tuple [.str s, b])) o7 o8 o9 o10 o11 o12 o13 o14 none none) (bin_eq (x := .list ev) (y := .list (evG cl (.tuple [.str s, b]))) rfl ?_ ?_) rfl
  · rw [ev_New, lc]
    rfl
  · show (if szOk _ = true then _ else _) = _
    rw [if_pos (show szOk _ = true from decide_eq_true (by omega))]
theorem a5_ok (h : MemOk cl) (hl : cl.length ≤ 20) : ∃ ev o6', (∀ d ∈ ev, PairOf cl d) ∧ ev.length ≤ 400 ∧ lA5 (qE sc o1 o2 o3 (some (.list cl)) (some (.list [])) o6 o7 o8 o9 o10 o11 o12 o13 o14 none none) = some (.next, qE sc o1 o2 o3 (some (.list cl)) (some (.list ev)) o6' o7 o8 o9 o10 o11 o12 o13 o14 none none) := by
  obtain ⟨e', q, ev, o6', h1, h2, rfl⟩ := for_eqs (bind := bName 6) (body := lB5) (fun j e => ∃ ev o6', (∀ d ∈ ev, PairOf cl d) ∧ ev.length ≤ 20 * j ∧ e = qE sc o1 o2 o3 (some (.list cl)) (some (.list ev)) o6' o7 o8 o9 o10 o11 o12 o13 o14 none none) cl 0 (qE sc o1 o2 o3 (some (.list cl)) (some (.list [])) o6 o7 o8 o9 o10 o11 o12 o13 o14 none none) ⟨[], o6, (fun d hd => absurd hd List.not_mem_nil), by simp, rfl⟩ (by
    rintro x hx j e hj ⟨ev, o6', h1, h2, rfl⟩
    refine ⟨_, _, by cases o6' <;> rfl, b5_ok h hx hl (by omega), _, _, fun d hd => ?_, ?_, rfl⟩
    · rcases List.mem_append.mp hd with w | w
      · exact h1 d w
      · obtain ⟨y, hy, rfl⟩ := List.mem_map.mp w
        exact ⟨x, y, rfl, hx, (List.mem_filter.mp hy).1⟩
    · have : (evG cl x).length ≤ 20 := by
        unfold evG
        rw [List.length_map]
        exact Nat.le_trans (List.length_filter_le _ _) hl
      rw [List.length_append]
      omega)
  refine ⟨ev, o6', h1, by omega, ?_⟩
  unfold lA5
  rw [ev_For]
  exact q
theorem a6_ok {B : Nat} (hd : DOk B dk) (hB : B ≤ 900000000) (h9 : ∀ m ∈ cl, fine 9 1 m = true) (he : ∀ d ∈ ev, PairOf cl d) : ∃ th dk1, (∀ d ∈ th, fine 30 7 d = true) ∧ th.length = 6 ∧ DOk (B + 1) dk1 ∧ lA6 (qE sc o1 (some (.own false dk)) o3 o4 (some (.list ev)) o6 o7 o8 o9 o10 o11 o12 o13 o14 none none) = some (.next, qE sc o1 (some (.own false dk1)) o3 o4 (some (.list ev)) o6 (some (.list th)) o8 o9 o10 o11 o12 o13 o14 none none) := by
  obtain ⟨od, dk1, d1, d2, d3⟩ := odd_ok hd (by omega)
  have pf : ∀ k : Nat, k ≤ 13 → fine 30 7 (.tuple (cutD ev none (some (k : Nat)))) = true := fun k hk => by
    have cm := cut_most ev k
    refine fine_sq (tup := true) (by omega) fun d hd => ?_
    obtain ⟨x, y, rfl, hx, hy⟩ := he d (cut_mem hd)
    exact fine2 (by decide) (fine_mono (by decide) (by decide) (h9 x hx)) (fine_mono (by decide) (by decide) (h9 y hy))
  refine ⟨[.tuple (cutD ev none (some 12)), .tuple (cutD ev none (some 13)), .none, od, .tuple [], .list [.tuple []]], dk1, fun d hd => ?_, rfl, d3, ?_⟩
  · simp only [List.mem_cons, List.not_mem_nil, or_false] at hd
    rcases hd with rfl | rfl | rfl | rfl | rfl | rfl
    · exact pf 12 (by decide)
    · exact pf 13 (by decide)
    · rfl
    · exact fine_mono (by decide) (by decide) d2
    · rfl
    · rfl
  · unfold lA6
    refine asg_eq (newsz_eq (cons_eq (d := .tuple (cutD ev none (some 12))) (e1 := qE sc o1 (some (.own false dk)) o3 o4 (some (.list ev)) o6 o7 o8 o9 o10 o11 o12 o13 o14 none none) rfl (cons_eq (d := .tuple (cutD ev none (some 13))) (e1 := qE sc o1 (some (.own false dk)) o3 o4 (some (.list ev)) o6 o7 o8 o9 o10 o11 o12 o13 o14 none none) rfl (cons_eq (d := .none) (e1 := qE sc o1 (some (.own false dk)) o3 o4 (some (.list ev)) o6 o7 o8 o9 o10 o11 o12 o13 o14 none none) rfl (cons_eq (callK_eq (b := false) (dk := dk) (args := []) rfl rfl rfl d1) (e2 := qE sc o1 (some (.own false dk1)) o3 o4 (some (.list ev)) o6 o7 o8 o9 o10 o11 o12 o13 o14 none none) (ds := [.tuple [], .list [.tuple []]]) rfl)))) (by simp)) ?_
    cases o7 <;> rfl
end
end PB

set_option maxHeartbeats 4000000
/-! k02: the law holds, further. -/
namespace PB
open PySem PySem.Spec PyProof.Rows L2
open PySem.W (alike alikeAll dataLt dataLe keyToks keyToksAll AllAlike Sortable EachIs)
section
variable {sc : D} {o1 : Option D} {o2 : Option Sl} {o3 o4 o5 o6 o7 o8 o9 o10 o11 o12 : Option D} {o13 o14 : Option Sl} {dk fs cl ev th out : List D} {z : Int}
theorem t1_ok {B : Nat} (k : Int) (hd : DOk B dk) (hB : B ≤ 800000000) (hf : Drawn fs) : ∃ out dk1, (∀ d ∈ out, PairOf (colsL fs) d) ∧ out.length ≤ 12 ∧ DOk (B + 1000) dk1 ∧ lT1 (qE sc o1 (some (.own false dk)) (some (.tuple fs)) o4 o5 o6 o7 (some (.int k)) o9 o10 o11 o12 o13 o14 none none) = some (.next, qE sc o1 (some (.own false dk1)) (some (.tuple fs)) o4 o5 o6 o7 (some (.int k)) o9 (some (.tuple out)) o11 o12 o13 o14 none none) := by
  obtain ⟨out, dk1, h1, h2, h3, h4⟩ := likes_ok (odd := k % 2 == 0) hd hB hf
  refine ⟨out, dk1, h2, h3, h4, ?_⟩
  have eq : dEq (.int (k % 2)) (.int 0) = some (.bool (k % 2 == 0)) := by simp only [dEq, shaped_int, Bool.and_self, if_true, eqv_ints]
  unfold lT1
  refine asg_eq (callK_eq (b := false) (dk := dk) (args := [.tuple fs, .bool (k % 2 == 0)]) rfl ?_ rfl h1) ?_
  · refine cons_eq (e1 := qE sc o1 (some (.own false dk)) (some (.tuple fs)) o4 o5 o6 o7 (some (.int k)) o9 o10 o11 o12 o13 o14 none none) rfl (cons_eq (bin_eq (x := .int (k % 2)) (y := .int 0) (e1 := qE sc o1 (some (.own false dk)) (some (.tuple fs)) o4 o5 o6 o7 (some (.int k)) o9 o10 o11 o12 o13 o14 none none) (e2 := qE sc o1 (some (.own false dk)) (some (.tuple fs)) o4 o5 o6 o7 (some (.int k)) o9 o10 o11 o12 o13 o14 none none) rfl rfl eq) rfl)
  · cases o10 <;> rfl
theorem t2_ok {B : Nat} (hd : DOk B dk) (hB : B ≤ 800000000) (hf : fine 20 6 (.tuple out) = true) : ∃ b dk1, fine 21 6 b = true ∧ DOk (B + 14) dk1 ∧ lT2 (qE sc o1 (some (.own false dk)) o3 o4 o5 o6 o7 o8 o9 (some (.tuple out)) o11 o12 o13 o14 none none) = some (.next, qE sc o1 (some (.own false dk1)) o3 o4 o5 o6 o7 o8 o9 (some (.tuple out)) (some b) o12 o13 o14 none none) := by
  obtain ⟨d', ds1, q1, q2, q3⟩ := spoilt_all 6 20 (by decide) (by decide) 20 B dk (.tuple out) hd (by omega) (by decide) hf
  refine ⟨d', ds1, q2, q3, ?_⟩
  unfold lT2
  refine asg_eq (callK_eq (b := false) (dk := dk) (args := [.tuple out]) rfl rfl rfl q1) ?_
  cases o11 <;> rfl
def revD : D → D
  | .tuple ds => .tuple ds.reverse
  | d => d
theorem t3_ok {bt : D} (ho : ∀ d ∈ out, PairOf cl d) (hl : out.length ≤ 12) (ht : th.length ≤ 100) : lT3 (qE sc o1 o2 o3 o4 o5 o6 (some (.list th)) o8 o9 (some (.tuple out)) (some bt) o12 o13 o14 none none) = some (.next, qE sc o1 o2 o3 o4 o5 o6 (some (.list (th ++ [.tuple out, bt, .tuple out.reverse, .list out, .tuple (out.map revD)]))) o8 o9 (some (.tuple out)) (some bt) o12 o13 o14 none none) := by
  have lc : mLc (mIt (mVar 10)) (bName 16) mYes (mUn dRev (mVar 16)) [16] (qE sc o1 o2 o3 o4 o5 o6 (some (.list th)) o8 o9 (some (.tuple out)) (some bt) o12 o13 o14 none none) = some (out.map revD, qE sc o1 o2 o3 o4 o5 o6 (some (.list th)) o8 o9 (some (.tuple out)) (some bt) o12 o13 o14 none none) := by
    rw [lc_pure (items := out) (fun _ => true) revD (fun d => qE sc o1 o2 o3 o4 o5 o6 (some (.list th)) o8 o9 (some (.tuple out)) (some bt) o12 o13 o14 none (some d)) (qE sc o1 o2 o3 o4 o5 o6 (some (.list th)) o8 o9 (some (.tuple out)) (some bt) o12 o13 o14 none none) rfl (by omega) rfl rfl (fun d hd => rfl) (fun d hd => rfl) (fun d hd _ => ?_) (fun d hd => rfl), filter_true]
    obtain ⟨x, y, rfl, _⟩ := ho d hd
    rfl
  have tl : mCB fTuple (mCons (mNew (mLc (mIt (mVar 10)) (bName 16) mYes (mUn dRev (mVar 16)) [16])) mNil) (qE sc o1 o2 o3 o4 o5 o6 (some (.list th)) o8 o9 (some (.tuple out)) (some bt) o12 o13 o14 none none) = some (.tuple (out.map revD), qE sc o1 o2 o3 o4 o5 o6 (some (.list th)) o8 o9 (some (.tuple out)) (some bt) o12 o13 o14 none none) := by
    rw [ev_CB, ev_Cons, ev_New, lc]
    rfl
  unfold lT3
  refine asg_eq (d := .list (th ++ [.tuple out, bt, .tuple out.reverse, .list out, .tuple (out.map revD)])) (e1 := qE sc o1 o2 o3 o4 o5 o6 (some (.list th)) o8 o9 (some (.tuple out)) (some bt) o12 o13 o14 none none) (bin_eq (x := .list th) (y := .list [.tuple out, bt, .tuple out.reverse, .list out, .tuple (out.map revD)]) (e1 := qE sc o1 o2 o3 o4 o5 o6 (some (.list th)) o8 o9 (some (.tuple out)) (some bt) o12 o13 o14 none none) rfl (newsz_eq ?_ (by simp)) ?_) rfl
  · refine cons_eq (e1 := qE sc o1 o2 o3 o4 o5 o6 (some (.list th)) o8 o9 (some (.tuple out)) (some bt) o12 o13 o14 none none) rfl (cons_eq (e1 := qE sc o1 o2 o3 o4 o5 o6 (some (.list th)) o8 o9 (some (.tuple out)) (some bt) o12 o13 o14 none none) rfl (cons_eq (e1 := qE sc o1 o2 o3 o4 o5 o6 (some (.list th)) o8 o9 (some (.tuple out)) (some bt) o12 o13 o14 none none) rfl (cons_eq (e1 := qE sc o1 o2 o3 o4 o5 o6 (some (.list th)) o8 o9 (some (.tuple out)) (some bt) o12 o13 o14 none none) rfl (cons_eq tl rfl))))
  · show (if szOk (th.length + 5) = true then _ else _) = _
    rw [if_pos (show szOk _ = true from decide_eq_true (by omega))]
theorem t4_ok {R : List D} (e : f_law_hung [.list cl, .tuple out] = some (.val (.list R))) : lT4 (qE sc o1 o2 o3 (some (.list cl)) o5 o6 o7 o8 o9 (some (.tuple out)) o11 o12 o13 o14 none none) = some (.next, qE sc o1 o2 o3 (some (.list cl)) o5 o6 o7 o8 o9 (some (.tuple out)) o11 (some (.list R)) o13 o14 none none) := by
  unfold lT4
  refine asg_eq (d := .list R) (e1 := qE sc o1 o2 o3 (some (.list cl)) o5 o6 o7 o8 o9 (some (.tuple out)) o11 o12 o13 o14 none none) ?_ ?_
  · show ((f_law_hung [.list cl, .tuple out]).map _) = _
    rw [e]
    rfl
  · cases o12 <;> rfl
theorem t5_ok {R R' : List D} (h13 : NP o13) (h14 : NP o14) (e : f_kinds [.tuple fs, .tuple out] = some (.new R)) (e' : f_odd_kinds [.tuple fs, .tuple out] = some (.new R')) : lT5 (qE sc o1 o2 (some (.tuple fs)) o4 o5 o6 o7 o8 o9 (some (.tuple out)) o11 o12 o13 o14 none none) = some (.next, qE sc o1 o2 (some (.tuple fs)) o4 o5 o6 o7 o8 o9 (some (.tuple out)) o11 o12 (some (.own false R)) (some (.own false R')) none none) := by
  have m1 : mCallN 2 f_kinds (mCons (mVar 3) (mCons (mVar 10) mNil)) (qE sc o1 o2 (some (.tuple fs)) o4 o5 o6 o7 o8 o9 (some (.tuple out)) o11 o12 o13 o14 none none) = some (R, qE sc o1 o2 (some (.tuple fs)) o4 o5 o6 o7 o8 o9 (some (.tuple out)) o11 o12 o13 o14 none none) := by
    show ((f_kinds [.tuple fs, .tuple out]).bind _) = _
    rw [e]
    rfl
  have m2 : mCallN 2 f_odd_kinds (mCons (mVar 3) (mCons (mVar 10) mNil)) (qE sc o1 o2 (some (.tuple fs)) o4 o5 o6 o7 o8 o9 (some (.tuple out)) o11 o12 o13 o14 none none) = some (R', qE sc o1 o2 (some (.tuple fs)) o4 o5 o6 o7 o8 o9 (some (.tuple out)) o11 o12 o13 o14 none none) := by
    show ((f_odd_kinds [.tuple fs, .tuple out]).bind _) = _
    rw [e']
    rfl
  unfold lT5 sParN
  rw [m1, Option.bind_some, m2, Option.bind_some]
  show (if (true && !isPar (some o14) && true && !isPar (some o13)) = true then _ else _) = _
  rw [h13, h14]
  rfl
theorem t6_ok {R R' : List D} (e : f_law_odd_ones [.list R] = some (.val (.list R'))) (s : f_law_same 20 [.list [.list R, .list R'], .list [.list R, .list R']] = some (.val (.bool true))) : lT6 (qE sc o1 o2 o3 o4 o5 o6 o7 o8 o9 o10 o11 (some (.list R)) (some (.own false R)) (some (.own false R')) none none) = some (.next, qE sc o1 o2 o3 o4 o5 o6 o7 o8 o9 o10 o11 (some (.list R)) (some (.own false R)) (some (.own false R')) none none) := by
  have pc : pCall 1 f_law_odd_ones (pCons (pVar 12) pNil) (qE sc o1 o2 o3 o4 o5 o6 o7 o8 o9 o10 o11 (some (.list R)) (some (.val (.list R))) (some (.val (.list R'))) none none) = some (.list R') := by
    show ((f_law_odd_ones [.list R]).map toD) = _
    rw [e]
    rfl
  have pm : pCall 2 (f_law_same 20) (pCons (pLst (pCons (pVar 13) (pCons (pVar 14) pNil))) (pCons (pLst (pCons (pVar 12) (pCons (pCall 1 f_law_odd_ones (pCons (pVar 12) pNil)) pNil))) pNil)) (qE sc o1 o2 o3 o4 o5 o6 o7 o8 o9 o10 o11 (some (.list R)) (some (.val (.list R))) (some (.val (.list R'))) none none) = some (.bool true) := by
    have l1 : pLst (pCons (pVar 13) (pCons (pVar 14) pNil)) (qE sc o1 o2 o3 o4 o5 o6 o7 o8 o9 o10 o11 (some (.list R)) (some (.val (.list R))) (some (.val (.list R'))) none none) = some (.list [.list R, .list R']) := rfl
    have l2 : pLst (pCons (pVar 12) (pCons (pCall 1 f_law_odd_ones (pCons (pVar 12) pNil)) pNil)) (qE sc o1 o2 o3 o4 o5 o6 o7 o8 o9 o10 o11 (some (.list R)) (some (.val (.list R))) (some (.val (.list R'))) none none) = some (.list [.list R, .list R']) := by
      unfold pLst
      have v12 : pVar 12 (qE sc o1 o2 o3 o4 o5 o6 o7 o8 o9 o10 o11 (some (.list R)) (some (.val (.list R))) (some (.val (.list R'))) none none) = some (.list R) := rfl
      have c2 : pCons (pVar 12) (pCons (pCall 1 f_law_odd_ones (pCons (pVar 12) pNil)) pNil) (qE sc o1 o2 o3 o4 o5 o6 o7 o8 o9 o10 o11 (some (.list R)) (some (.val (.list R))) (some (.val (.list R'))) none none) = some [.list R, .list R'] := by
        show ((pVar 12 _).bind fun d => (((pCall 1 f_law_odd_ones (pCons (pVar 12) pNil)) _).bind fun d' => (some []).map (d' :: ·)).map (d :: ·)) = _
        rw [v12, Option.bind_some, pc]
        rfl
      rw [c2]
      rfl
    have cc : pCons (pLst (pCons (pVar 13) (pCons (pVar 14) pNil))) (pCons (pLst (pCons (pVar 12) (pCons (pCall 1 f_law_odd_ones (pCons (pVar 12) pNil)) pNil))) pNil) (qE sc o1 o2 o3 o4 o5 o6 o7 o8 o9 o10 o11 (some (.list R)) (some (.val (.list R))) (some (.val (.list R'))) none none) = some [.list [.list R, .list R'], .list [.list R, .list R']] := by
      show ((pLst (pCons (pVar 13) (pCons (pVar 14) pNil)) _).bind fun d => ((pLst (pCons (pVar 12) (pCons (pCall 1 f_law_odd_ones (pCons (pVar 12) pNil)) pNil)) _).bind fun d' => (some []).map (d' :: ·)).map (d :: ·)) = _
      rw [l1, Option.bind_some, l2]
      rfl
    unfold pCall at cc ⊢
    rw [cc, Option.bind_some]
    show ((f_law_same 20 [.list [.list R, .list R'], .list [.list R, .list R']]).map toD) = _
    rw [s]
    rfl
  have bo : mBor 13 14 (pCall 2 (f_law_same 20) (pCons (pLst (pCons (pVar 13) (pCons (pVar 14) pNil))) (pCons (pLst (pCons (pVar 12) (pCons (pCall 1 f_law_odd_ones (pCons (pVar 12) pNil)) pNil))) pNil))) (qE sc o1 o2 o3 o4 o5 o6 o7 o8 o9 o10 o11 (some (.list R)) (some (.own false R)) (some (.own false R')) none none) = some (.bool true, qE sc o1 o2 o3 o4 o5 o6 o7 o8 o9 o10 o11 (some (.list R)) (some (.own false R)) (some (.own false R')) none none) := by
    show ((pCall 2 (f_law_same 20) (pCons (pLst (pCons (pVar 13) (pCons (pVar 14) pNil))) (pCons (pLst (pCons (pVar 12) (pCons (pCall 1 f_law_odd_ones (pCons (pVar 12) pNil)) pNil))) pNil)) (qE sc o1 o2 o3 o4 o5 o6 o7 o8 o9 o10 o11 (some (.list R)) (some (.val (.list R))) (some (.val (.list R'))) none none)).bind _) = _
    rw [pm]
    rfl
  unfold lT6
  refine if_no (e1 := qE sc o1 o2 o3 o4 o5 o6 o7 o8 o9 o10 o11 (some (.list R)) (some (.own false R)) (some (.own false R')) none none) ?_
  rw [ev_NotT, ev_Tru, bo]
  rfl
theorem t7_ok {R R' : List D} (h : R.length ≤ 1000) : lT7 (qE sc o1 o2 o3 o4 o5 o6 o7 o8 o9 o10 o11 o12 (some (.own false R)) (some (.own false R')) none none) = some (.next, qE sc o1 o2 o3 o4 o5 o6 o7 o8 o9 o10 o11 o12 (some (.own false (R ++ [.int 1]))) (some (.own false R')) none none) := by
  have m : mAppend 13 (mC (.int 1)) (qE sc o1 o2 o3 o4 o5 o6 o7 o8 o9 o10 o11 o12 (some (.own false R)) (some (.own false R')) none none) = some (.none, qE sc o1 o2 o3 o4 o5 o6 o7 o8 o9 o10 o11 o12 (some (.own false (R ++ [.int 1]))) (some (.own false R')) none none) := by
    show (if szOk R.length = true then _ else _) = _
    rw [if_pos (show szOk R.length = true from decide_eq_true (by omega))]
    rfl
  unfold lT7 sDrop
  rw [m]
  rfl
theorem t8_ok {s : Option Sl} {R' : List D} (h : R'.length ≤ 1000) : lT8 (qE sc o1 o2 o3 o4 o5 o6 o7 o8 o9 o10 o11 o12 s (some (.own false R')) none none) = some (.next, qE sc o1 o2 o3 o4 o5 o6 o7 o8 o9 o10 o11 o12 s (some (.own false (R' ++ [.int 1]))) none none) := by
  have m : mAppend 14 (mC (.int 1)) (qE sc o1 o2 o3 o4 o5 o6 o7 o8 o9 o10 o11 o12 s (some (.own false R')) none none) = some (.none, qE sc o1 o2 o3 o4 o5 o6 o7 o8 o9 o10 o11 o12 s (some (.own false (R' ++ [.int 1]))) none none) := by
    show (if szOk R'.length = true then _ else _) = _
    rw [if_pos (show szOk R'.length = true from decide_eq_true (by omega))]
    rfl
  unfold lT8 sDrop
  rw [m]
  rfl
theorem t9_ok {s s' : Option Sl} {R : List D} (e : f_kinds [.tuple fs, .tuple out] = some (.new R)) (hf : fine 30 3 (.list R) = true) : lT9 (qE sc o1 o2 (some (.tuple fs)) o4 o5 o6 o7 o8 o9 (some (.tuple out)) o11 (some (.list R)) s s' none none) = some (.next, qE sc o1 o2 (some (.tuple fs)) o4 o5 o6 o7 o8 o9 (some (.tuple out)) o11 (some (.list R)) s s' none none) := by
  have ne : dNe (.list R) (.list R) = some (.bool false) := by
    unfold dNe
    rw [fine_shaped hf (by decide), eqv_self 3 _ hf]
    rfl
  have mc : mCall 2 f_kinds (mCons (mVar 3) (mCons (mVar 10) mNil)) (qE sc o1 o2 (some (.tuple fs)) o4 o5 o6 o7 o8 o9 (some (.tuple out)) o11 (some (.list R)) s s' none none) = some (.list R, qE sc o1 o2 (some (.tuple fs)) o4 o5 o6 o7 o8 o9 (some (.tuple out)) o11 (some (.list R)) s s' none none) := by
    show ((f_kinds [.tuple fs, .tuple out]).map _) = _
    rw [e]
    rfl
  unfold lT9
  refine if_no ?_
  rw [ev_B, bin_eq mc (e2 := qE sc o1 o2 (some (.tuple fs)) o4 o5 o6 o7 o8 o9 (some (.tuple out)) o11 (some (.list R)) s s' none none) (y := .list R) rfl ne]
  rfl
/-- one turn of the inner loop -/
theorem ts_ok {B : Nat} (k : Int) (hd : DOk B dk) (hB : B ≤ 700000000) (hf : Drawn fs) (h13 : NP o13) (h14 : NP o14) (ht : ∀ d ∈ th, fine 30 7 d = true) (hl : th.length ≤ 100) :
    ∃ dk1 th1 p10 p11 p12 p13 p14, DOk (B + 1014) dk1 ∧ (∀ d ∈ th1, fine 30 7 d = true) ∧ th1.length = th.length + 5 ∧ NP p13 ∧ NP p14 ∧
      lTs (qE sc o1 (some (.own false dk)) (some (.tuple fs)) (some (.list (colsL fs))) o5 o6 (some (.list th)) (some (.int k)) o9 o10 o11 o12 o13 o14 none none) =
        some (.next, qE sc o1 (some (.own false dk1)) (some (.tuple fs)) (some (.list (colsL fs))) o5 o6 (some (.list th1)) (some (.int k)) o9 p10 p11 p12 p13 p14 none none) := by
  obtain ⟨out, dk1, ho, hlo, d1, e1⟩ := t1_ok (sc := sc) (o1 := o1) (o4 := some (.list (colsL fs))) (o5 := o5) (o6 := o6) (o7 := some (.list th)) (o9 := o9) (o10 := o10) (o11 := o11) (o12 := o12) (o13 := o13) (o14 := o14) k hd (by omega) hf
  have fo := fine_pairs hf.cols9 ho hlo
  obtain ⟨bt, dk2, fb, d2, e2⟩ := t2_ok (sc := sc) (o1 := o1) (o3 := some (.tuple fs)) (o4 := some (.list (colsL fs))) (o5 := o5) (o6 := o6) (o7 := some (.list th)) (o8 := some (.int k)) (o9 := o9) (o11 := o11) (o12 := o12) (o13 := o13) (o14 := o14) d1 (by omega) fo
  have e3 := t3_ok (sc := sc) (o1 := o1) (o2 := some (.own false dk2)) (o3 := some (.tuple fs)) (o4 := some (.list (colsL fs))) (o5 := o5) (o6 := o6) (o8 := some (.int k)) (o9 := o9) (o12 := o12) (o13 := o13) (o14 := o14) (bt := bt) ho hlo hl
  have hlen := hf.len
  obtain ⟨R, k1, iR⟩ := kinds_ok hf ho hlo
  obtain ⟨R2, h1, iR2⟩ := hung_ok hf.cols hf.up (by omega) ho (by omega)
  have same : R2 = R := iR2.same iR
  subst same
  have o1' := odd_kinds_ok hf ho hlo iR
  obtain ⟨rl, rp⟩ := part_parts hf iR
  have oo := e_odd_ones hf.cols (by omega) (R := R2) fun r hr => by
    obtain ⟨xs, e, h1, h2⟩ := rp r hr
    exact ⟨xs, e, h1, by omega⟩
  have fr : ∀ r ∈ R2, fine 30 2 r = true := fun r hr => by
    obtain ⟨xs, rfl, h1, h2⟩ := rp r hr
    exact fine_sq (tup := true) (by omega) fun x hx => fine_mono (by decide) (by decide) (hf.cols9 x (h1 x hx))
  have fR : fine 30 3 (.list R2) = true := fine_sq (tup := false) (by omega) fr
  have fl := List.length_filter_le oddB R2
  have fR' : fine 30 3 (.list (R2.filter oddB)) = true := fine_sq (tup := false) (by omega) fun r hr => fr r (List.mem_filter.mp hr).1
  have fpair : fine 30 4 (.list [.list R2, .list (R2.filter oddB)]) = true := fine_sq (tup := false) (by simp) fun d hd => by
    simp only [List.mem_cons, List.not_mem_nil, or_false] at hd
    rcases hd with rfl | rfl
    · exact fR
    · exact fR'
  have sm := same_refl 20 4 30 _ (by decide) (by decide) (by decide) fpair
  have e4 := t4_ok (sc := sc) (o1 := o1) (o2 := some (.own false dk2)) (o3 := some (.tuple fs)) (o5 := o5) (o6 := o6) (o7 := some (.list (th ++ [.tuple out, bt, .tuple out.reverse, .list out, .tuple (out.map revD)]))) (o8 := some (.int k)) (o9 := o9) (o11 := some bt) (o12 := o12) (o13 := o13) (o14 := o14) h1
  have e5 := t5_ok (sc := sc) (o1 := o1) (o2 := some (.own false dk2)) (o4 := some (.list (colsL fs))) (o5 := o5) (o6 := o6) (o7 := some (.list (th ++ [.tuple out, bt, .tuple out.reverse, .list out, .tuple (out.map revD)]))) (o8 := some (.int k)) (o9 := o9) (o11 := some bt) (o12 := some (.list R2)) h13 h14 k1 o1'
  have e6 := t6_ok (sc := sc) (o1 := o1) (o2 := some (.own false dk2)) (o3 := some (.tuple fs)) (o4 := some (.list (colsL fs))) (o5 := o5) (o6 := o6) (o7 := some (.list (th ++ [.tuple out, bt, .tuple out.reverse, .list out, .tuple (out.map revD)]))) (o8 := some (.int k)) (o9 := o9) (o10 := some (.tuple out)) (o11 := some bt) oo sm
  have e7 := t7_ok (sc := sc) (o1 := o1) (o2 := some (.own false dk2)) (o3 := some (.tuple fs)) (o4 := some (.list (colsL fs))) (o5 := o5) (o6 := o6) (o7 := some (.list (th ++ [.tuple out, bt, .tuple out.reverse, .list out, .tuple (out.map revD)]))) (o8 := some (.int k)) (o9 := o9) (o10 := some (.tuple out)) (o11 := some bt) (o12 := some (.list R2)) (R := R2) (R' := R2.filter oddB) (by omega)
  have e8 := t8_ok (sc := sc) (o1 := o1) (o2 := some (.own false dk2)) (o3 := some (.tuple fs)) (o4 := some (.list (colsL fs))) (o5 := o5) (o6 := o6) (o7 := some (.list (th ++ [.tuple out, bt, .tuple out.reverse, .list out, .tuple (out.map revD)]))) (o8 := some (.int k)) (o9 := o9) (o10 := some (.tuple out)) (o11 := some bt) (o12 := some (.list R2)) (s := some (.own false (R2 ++ [.int 1]))) (R' := R2.filter oddB) (by omega)
  have e9 := t9_ok (sc := sc) (o1 := o1) (o2 := some (.own false dk2)) (o4 := some (.list (colsL fs))) (o5 := o5) (o6 := o6) (o7 := some (.list (th ++ [.tuple out, bt, .tuple out.reverse, .list out, .tuple (out.map revD)]))) (o8 := some (.int k)) (o9 := o9) (o11 := some bt) (s := some (.own false (R2 ++ [.int 1]))) (s' := some (.own false (R2.filter oddB ++ [.int 1]))) k1 fR
  refine ⟨dk2, th ++ [.tuple out, bt, .tuple out.reverse, .list out, .tuple (out.map revD)], some (.tuple out), some bt, some (.list R2), some (.own false (R2 ++ [.int 1])), some (.own false (R2.filter oddB ++ [.int 1])), d2, fun d hd => ?_, by simp, rfl, rfl, ?_⟩
  · have po : ∀ d ∈ out, fine 30 6 d = true := fun d hd => by
      obtain ⟨x, y, rfl, hx, hy⟩ := ho d hd
      exact fine2 (by decide) (fine_mono (by decide) (by decide) (hf.cols9 x hx)) (fine_mono (by decide) (by decide) (hf.cols9 y hy))
    rcases List.mem_append.mp hd with q | q
    · exact ht d q
    · simp only [List.mem_cons, List.not_mem_nil, or_false] at q
      rcases q with rfl | rfl | rfl | rfl | rfl
      · exact fine_sq (tup := true) (by omega) po
      · exact fine_mono (by decide) (by decide) fb
      · exact fine_sq (tup := true) (by rw [List.length_reverse]; omega) fun d hd => po d (List.mem_reverse.mp hd)
      · exact fine_sq (tup := false) (by omega) po
      · refine fine_sq (tup := true) (by rw [List.length_map]; omega) fun d hd => ?_
        obtain ⟨p, hp, rfl⟩ := List.mem_map.mp hd
        obtain ⟨x, y, rfl, hx, hy⟩ := ho p hp
        exact fine2 (by decide) (fine_mono (by decide) (by decide) (hf.cols9 y hy)) (fine_mono (by decide) (by decide) (hf.cols9 x hx))
  · unfold lTs
    exact seq_eq e1 (seq_eq e2 (seq_eq e3 (seq_eq e4 (seq_eq e5 (seq_eq e6 (seq_eq e7 (seq_eq e8 e9)))))))
theorem a7_ok {B : Nat} (hd : DOk B dk) (hB : B ≤ 600000000) (hf : Drawn fs) (h13 : NP o13) (h14 : NP o14) (ht : ∀ d ∈ th, fine 30 7 d = true) (hl : th.length = 6) :
    ∃ dk1 th1 p8 p10 p11 p12 p13 p14, (∀ d ∈ th1, fine 30 7 d = true) ∧ NP p13 ∧ NP p14 ∧
      lA7 (qE sc o1 (some (.own false dk)) (some (.tuple fs)) (some (.list (colsL fs))) o5 o6 (some (.list th)) o8 o9 o10 o11 o12 o13 o14 none none) =
        some (.next, qE sc o1 (some (.own false dk1)) (some (.tuple fs)) (some (.list (colsL fs))) o5 o6 (some (.list th1)) p8 o9 p10 p11 p12 p13 p14 none none) := by
  obtain ⟨e', q, dk1, th1, p8, p10, p11, p12, p13, p14, g1, g2, g3, g4, g5, rfl⟩ := for_eqs (bind := bName 8) (body := lTs) (fun j e => ∃ (dk1 th1 : List D) (p8 p10 p11 p12 : Option D) (p13 p14 : Option Sl), DOk (B + 1014 * j) dk1 ∧ (∀ d ∈ th1, fine 30 7 d = true) ∧ th1.length = 6 + 5 * j ∧ NP p13 ∧ NP p14 ∧ e = qE sc o1 (some (.own false dk1)) (some (.tuple fs)) (some (.list (colsL fs))) o5 o6 (some (.list th1)) p8 o9 p10 p11 p12 p13 p14 none none)
    (rangeD 0 6) 0 (qE sc o1 (some (.own false dk)) (some (.tuple fs)) (some (.list (colsL fs))) o5 o6 (some (.list th)) o8 o9 o10 o11 o12 o13 o14 none none) ⟨dk, th, o8, o10, o11, o12, o13, o14, hd, ht, hl, h13, h14, rfl⟩ (by
      rintro d hdm j e hj ⟨dk1, th1, p8, p10, p11, p12, p13, p14, g1, g2, g3, g4, g5, rfl⟩
      rw [rangeD_len] at hj
      obtain ⟨n, _, rfl⟩ := range_mem hdm
      obtain ⟨dk2, th2, q10, q11, q12, q13, q14, w1, w2, w3, w4, w5, e⟩ := ts_ok (sc := sc) (o1 := o1) (o5 := o5) (o6 := o6) (o9 := o9) (o10 := p10) (o11 := p11) (o12 := p12) (0 + (n : Nat)) g1 (by omega) hf g4 g5 g2 (by omega)
      refine ⟨_, _, by cases p8 <;> rfl, e, dk2, th2, some (.int (0 + (n : Nat))), q10, q11, q12, q13, q14, ?_, w2, by omega, w4, w5, rfl⟩
      rw [show B + 1014 * (j + 1) = B + 1014 * j + 1014 by omega]
      exact w1)
  refine ⟨dk1, th1, p8, p10, p11, p12, p13, p14, g2, g4, g5, ?_⟩
  unfold lA7
  rw [ev_For]
  exact q
theorem b8_ok {d : D} (h : HsC fs) (hd : fine 30 7 d = true) : lB8 (qE sc o1 o2 (some (.tuple fs)) o4 o5 o6 o7 o8 (some d) o10 o11 o12 o13 o14 none none) = some (.next, qE sc o1 o2 (some (.tuple fs)) o4 o5 o6 o7 o8 (some d) o10 o11 o12 o13 o14 none none) := by
  have h1 := e_are_likes h hd (by decide)
  have h2 := e_law_are_likes h hd (by decide)
  have h3 := same_bool (linksB (colsL fs) d) (linksB (colsL fs) d) 19
  have v3 : mVar 3 (qE sc o1 o2 (some (.tuple fs)) o4 o5 o6 o7 o8 (some d) o10 o11 o12 o13 o14 none none) = some (.tuple fs, qE sc o1 o2 (some (.tuple fs)) o4 o5 o6 o7 o8 (some d) o10 o11 o12 o13 o14 none none) := rfl
  have v9 : mVar 9 (qE sc o1 o2 (some (.tuple fs)) o4 o5 o6 o7 o8 (some d) o10 o11 o12 o13 o14 none none) = some (d, qE sc o1 o2 (some (.tuple fs)) o4 o5 o6 o7 o8 (some d) o10 o11 o12 o13 o14 none none) := rfl
  unfold lB8
  refine if_no ?_
  simp [v3, v9, h1, h2, h3]
theorem a8_ok (h : HsC fs) (ht : ∀ d ∈ th, fine 30 7 d = true) : ∃ p9, lA8 (qE sc o1 o2 (some (.tuple fs)) o4 o5 o6 (some (.list th)) o8 o9 o10 o11 o12 o13 o14 none none) = some (.next, qE sc o1 o2 (some (.tuple fs)) o4 o5 o6 (some (.list th)) o8 p9 o10 o11 o12 o13 o14 none none) := by
  obtain ⟨e', q, p9, rfl⟩ := for_eqs (bind := bName 9) (body := lB8) (fun j e => ∃ p9 : Option D, e = qE sc o1 o2 (some (.tuple fs)) o4 o5 o6 (some (.list th)) o8 p9 o10 o11 o12 o13 o14 none none) th 0 (qE sc o1 o2 (some (.tuple fs)) o4 o5 o6 (some (.list th)) o8 o9 o10 o11 o12 o13 o14 none none) ⟨o9, rfl⟩ (by
    rintro d hd j e hj ⟨p9, rfl⟩
    exact ⟨_, _, by cases p9 <;> rfl, b8_ok h (ht d hd), some d, rfl⟩)
  refine ⟨p9, ?_⟩
  unfold lA8
  rw [ev_For]
  exact q
theorem Drawn.hsc {fs : List D} (h : Drawn fs) : HsC fs := by
  obtain ⟨hs, e, _, _, ho⟩ := houses_shape h.ok
  cases e
  exact ⟨h.sh, fun x hx => fine_mono (by decide) (by decide) (h.fins x hx), h.four, h.cols, h.rows, col_mem ho h.sh⟩
/-- one cell -/
theorem as_ok (z : Int) (h2 : NP o2) (h13 : NP o13) (h14 : NP o14) : ∃ (p2 : Option Sl) (p3 p4 p5 p6 p7 p8 p9 p10 p11 p12 : Option D) (p13 p14 : Option Sl), NP p2 ∧ NP p13 ∧ NP p14 ∧
    lAs (qE sc (some (.int z)) o2 o3 o4 o5 o6 o7 o8 o9 o10 o11 o12 o13 o14 none none) = some (.next, qE sc (some (.int z)) p2 p3 p4 p5 p6 p7 p8 p9 p10 p11 p12 p13 p14 none none) := by
  obtain ⟨dk, d1, e1⟩ := a1_ok (sc := sc) (o3 := o3) (o4 := o4) (o5 := o5) (o6 := o6) (o7 := o7) (o8 := o8) (o9 := o9) (o10 := o10) (o11 := o11) (o12 := o12) (o13 := o13) (o14 := o14) z h2
  obtain ⟨fs, dk1, hf, d2, e2⟩ := a2_ok (sc := sc) (o1 := some (.int z)) (o3 := o3) (o4 := o4) (o5 := o5) (o6 := o6) (o7 := o7) (o8 := o8) (o9 := o9) (o10 := o10) (o11 := o11) (o12 := o12) (o13 := o13) (o14 := o14) d1 (by omega)
  have e3 := a3_ok (sc := sc) (o1 := some (.int z)) (o2 := some (.own false dk1)) (o4 := o4) (o5 := o5) (o6 := o6) (o7 := o7) (o8 := o8) (o9 := o9) (o10 := o10) (o11 := o11) (o12 := o12) (o13 := o13) (o14 := o14) hf
  have e4 := a4_ok (sc := sc) (o1 := some (.int z)) (o2 := some (.own false dk1)) (o3 := some (.tuple fs)) (o4 := some (.list (colsL fs))) (o5 := o5) (o6 := o6) (o7 := o7) (o8 := o8) (o9 := o9) (o10 := o10) (o11 := o11) (o12 := o12) (o13 := o13) (o14 := o14)
  obtain ⟨ev, p6, v1, v2, e5⟩ := a5_ok (sc := sc) (o1 := some (.int z)) (o2 := some (.own false dk1)) (o3 := some (.tuple fs)) (o6 := o6) (o7 := o7) (o8 := o8) (o9 := o9) (o10 := o10) (o11 := o11) (o12 := o12) (o13 := o13) (o14 := o14) hf.cols hf.len
  obtain ⟨th, dk2, t1, t2, d3, e6⟩ := a6_ok (sc := sc) (o1 := some (.int z)) (o3 := some (.tuple fs)) (o4 := some (.list (colsL fs))) (o6 := p6) (o7 := o7) (o8 := o8) (o9 := o9) (o10 := o10) (o11 := o11) (o12 := o12) (o13 := o13) (o14 := o14) d2 (by omega) hf.cols9 v1
  obtain ⟨dk3, th1, p8, p10, p11, p12, p13, p14, g1, g2, g3, e7⟩ := a7_ok (sc := sc) (o1 := some (.int z)) (o5 := some (.list ev)) (o6 := p6) (o8 := o8) (o9 := o9) (o10 := o10) (o11 := o11) (o12 := o12) d3 (by omega) hf h13 h14 t1 t2
  obtain ⟨p9, e8⟩ := a8_ok (sc := sc) (o1 := some (.int z)) (o2 := some (.own false dk3)) (o4 := some (.list (colsL fs))) (o5 := some (.list ev)) (o6 := p6) (o8 := p8) (o9 := o9) (o10 := p10) (o11 := p11) (o12 := p12) (o13 := p13) (o14 := p14) hf.hsc g1
  refine ⟨some (.own false dk3), some (.tuple fs), some (.list (colsL fs)), some (.list ev), p6, some (.list th1), p8, p9, p10, p11, p12, p13, p14, rfl, g2, g3, ?_⟩
  unfold lAs
  exact seq_eq e1 (seq_eq e2 (seq_eq e3 (seq_eq e4 (seq_eq e5 (seq_eq e6 (seq_eq e7 e8))))))
end
theorem law_true (ns : List Int) (hl : ns.length ≤ 63) : f_law [.list (ns.map .int)] = some (.val (.bool true)) := by
  have st : startE 17 [.list (ns.map .int)] = qE (.list (ns.map .int)) none none none none none none none none none none none none none none none none := rfl
  have ev0 : mIt (mSl (mBin dAdd (mNew (mSz (mCons (mC (.int 0)) mNil))) (mVar 0)) mNoPart (mPart (mC (.int 10)))) (qE (.list (ns.map .int)) none none none none none none none none none none none none none none none none) = some (cutD (.int 0 :: ns.map .int) none (some 10), qE (.list (ns.map .int)) none none none none none none none none none none none none none none none none) := by
    have hz : szOk (1 + ns.length) = true := decide_eq_true (by omega)
    simp [qE, szOk0, dAdd, hz, dSl, show szOk 1 = true from rfl]
  obtain ⟨e', q, p1, p2, p3, p4, p5, p6, p7, p8, p9, p10, p11, p12, p13, p14, _, _, _, rfl⟩ := for_eqs (bind := bName 1) (body := lAs) (fun j e => ∃ (p1 : Option D) (p2 : Option Sl) (p3 p4 p5 p6 p7 p8 p9 p10 p11 p12 : Option D) (p13 p14 : Option Sl), NP p2 ∧ NP p13 ∧ NP p14 ∧ e = qE (.list (ns.map .int)) p1 p2 p3 p4 p5 p6 p7 p8 p9 p10 p11 p12 p13 p14 none none)
    (cutD (.int 0 :: ns.map .int) none (some 10)) 0 (qE (.list (ns.map .int)) none none none none none none none none none none none none none none none none) ⟨none, none, none, none, none, none, none, none, none, none, none, none, none, none, rfl, rfl, rfl, rfl⟩ (by
      rintro d hd j e hj ⟨p1, p2, p3, p4, p5, p6, p7, p8, p9, p10, p11, p12, p13, p14, h2, h13, h14, rfl⟩
      obtain ⟨z, rfl⟩ : ∃ z : Int, d = .int z := by
        have := cut_mem hd
        simp only [List.mem_cons, List.mem_map] at this
        rcases this with h | ⟨z, _, h⟩
        · exact ⟨0, h⟩
        · exact ⟨z, h.symm⟩
      obtain ⟨q2, q3, q4, q5, q6, q7, q8, q9, q10, q11, q12, q13, q14, n2, n13, n14, e⟩ := as_ok (sc := .list (ns.map .int)) (o3 := p3) (o4 := p4) (o5 := p5) (o6 := p6) (o7 := p7) (o8 := p8) (o9 := p9) (o10 := p10) (o11 := p11) (o12 := p12) z h2 h13 h14
      exact ⟨_, _, by cases p1 <;> rfl, e, some (.int z), q2, q3, q4, q5, q6, q7, q8, q9, q10, q11, q12, q13, q14, n2, n13, n14, rfl⟩)
  unfold f_law
  rw [runP_def, law_parts, st]
  rw [seq_eq (b := sRet (mC (.bool true))) (show sFor _ (bName 1) lAs _ = some (.next, _) from by rw [ev_For, ev0, Option.bind_some]; exact q) rfl]
  rfl
end PB

set_option maxHeartbeats 4000000
namespace PB
open PySem PySem.Spec PyProof.Rows L2
def topS (i : Nat) : Stmt := PySem.Challenge.pw_poolbook_k02_likes_and_kinds.main.body.getD i (.Pass ⟨0, 0, 0, 0⟩)
structure IntAt (mg : Str → Option Value) (x : Str) (i : Int) : Prop where
  ex : ∃ t, mg x = some (.int i t)
structure Top (w : World) (K : PySem.W.Frag) (mg : Str → Option Value) : Prop where
  n_calls_column : FnAt K mg "calls_column"
  d_is_tuple : DefAt K mg "is_tuple" (topS 1)
  d_is_pair : DefAt K mg "is_pair" (topS 2)
  d_rises : DefAt K mg "rises" (topS 3)
  d_linked : DefAt K mg "linked" (topS 4)
  d_all_groups : DefAt K mg "all_groups" (topS 5)
  d_is_odd : DefAt K mg "is_odd" (topS 6)
  d_columns_of : DefAt K mg "columns_of" (topS 9)
  d_calls_column : DefAt K mg "calls_column" (topS 10)
  d_are_likes : DefAt K mg "are_likes" (topS 13)
  d_kinds : DefAt K mg "kinds" (topS 14)
  d_odd_kinds : DefAt K mg "odd_kinds" (topS 15)
  d_law_deck : DefAt K mg "_law_deck" (topS 17)
  d_law_pick : DefAt K mg "_law_pick" (topS 18)
  d_law_one : DefAt K mg "_law_one" (topS 19)
  d_law_sort : DefAt K mg "_law_sort" (topS 20)
  d_law_same : DefAt K mg "_law_same" (topS 21)
  d_law_odd : DefAt K mg "_law_odd" (topS 22)
  d_law_spoilt : DefAt K mg "_law_spoilt" (topS 23)
  d_law_worth : DefAt K mg "_law_worth" (topS 24)
  d_law_houses : DefAt K mg "_law_houses" (topS 25)
  d_law_columns_of : DefAt K mg "_law_columns_of" (topS 26)
  d_law_pairs : DefAt K mg "_law_pairs" (topS 27)
  d_law_likes : DefAt K mg "_law_likes" (topS 28)
  d_law_hung : DefAt K mg "_law_hung" (topS 29)
  d_law_odd_ones : DefAt K mg "_law_odd_ones" (topS 30)
  d_law_calls : DefAt K mg "_law_calls" (topS 31)
  d_law_are_likes : DefAt K mg "_law_are_likes" (topS 32)
  d_law : DefAt K mg "law" (topS 33)
  d_are_links : DefAt K mg "are_links" (topS 12)
  d_is_link : DefAt K mg "is_link" (topS 11)
  c_MOST_LINKS : IntAt mg "MOST_LINKS" 12
  b_all : mg "all" = none
  b_any : mg "any" = none
  b_bool : mg "bool" = none
  b_enumerate : mg "enumerate" = none
  b_int : mg "int" = none
  b_isinstance : mg "isinstance" = none
  b_len : mg "len" = none
  b_list : mg "list" = none
  b_range : mg "range" = none
  b_set : mg "set" = none
  b_sorted : mg "sorted" = none
  b_str : mg "str" = none
  b_tuple : mg "tuple" = none
  b_zip : mg "zip" = none
section
variable {P : Program} {w : World} {K : PySem.W.Frag} {mg : Str → Option Value} {base : Heap} {tq : List (Addr × Str)}
theorem sc_is_tuple : FnScope ["thing", "fewest", "most"] ["thing", "fewest", "most"] (defScope (topS 1)) := ⟨rfl, rfl, rfl, by decide +kernel, rfl, by decide +kernel, by decide +kernel⟩
theorem ok_is_tuple (T : Top w K mg) : DefOk P w K mg base 1 "is_tuple" (spP (fg K P w tq) 3 f_is_tuple) :=
  def_pure T.d_is_tuple sc_is_tuple (by decide) (fun _ _ _ _ _ _ us hl => match us, hl with | [_, _, _], _ => rfl) fun f cdv A outer s H E hr => (by unfold M_is_tuple; exact (jss_one (js_ret (je_and (je_isi (T := "tuple") (by rfl) T.b_isinstance (jv 0) (by rfl) T.b_tuple (by decide +kernel)) (je_one (je_chain od_le od_le (jv 1) (je_len (by rfl) T.b_len (jv 0)) (jv 2)))))))
theorem sc_is_pair : FnScope ["thing"] ["thing"] (defScope (topS 2)) := ⟨rfl, rfl, rfl, by decide +kernel, rfl, by decide +kernel, by decide +kernel⟩
theorem ok_is_pair (T : Top w K mg) : DefOk P w K mg base 1 "is_pair" (spP (fg K P w tq) 1 f_is_pair) :=
  def_pure T.d_is_pair sc_is_pair (by decide) (fun _ _ _ _ _ _ us hl => match us, hl with | [_], _ => rfl) fun f cdv A outer s H E hr => (by unfold M_is_pair; exact (jss_one (js_ret (je_and (je_isi (T := "tuple") (by rfl) T.b_isinstance (jv 0) (by rfl) T.b_tuple (by decide +kernel)) (je_one (je_cmp (od_eq hr.units) (je_len (by rfl) T.b_len (jv 0)) je_int (nomark _)))))))
theorem sc_rises : FnScope ["members", "one", "other"] ["members"] (defScope (topS 3)) := ⟨rfl, rfl, rfl, by decide +kernel, rfl, by decide +kernel, by decide +kernel⟩
theorem ok_rises (T : Top w K mg) : DefOk P w K mg base 1 "rises" (spP (fg K P w tq) 1 f_rises) :=
  def_pure T.d_rises sc_rises (by decide) (fun _ _ _ _ _ _ us hl => match us, hl with | [_], _ => rfl) fun f cdv A outer s H E hr => (by unfold M_rises; exact (jss_one (js_ret (je_all rfl (by rfl) T.b_all (je_new (jn_lc (own := [("one", 1), ("other", 2)]) rfl sc_rises.nd (ji_zip (by rfl) T.b_zip (jv 0) (je_slice (jv 0) (jo_some je_int) jo_none)) (blkOk_by (N := ["members", "one", "other"]) (sc := defScope (topS 3)) (by decide +kernel)) (fun _ _ _ _ _ => (jg_tup rfl (jgs_cons (jg_name (i := 1) sc_rises.nd rfl (.inl rfl)) (jgs_cons (jg_name (i := 2) sc_rises.nd rfl (.inl rfl)) jgs_nil)))) (fun _ _ _ _ _ => jts_nil) (fun _ _ _ _ _ => (je_cmp (od_ltA hr.units) (jv 1) (jv 2) (nomark _)))))))))
theorem sc_linked : FnScope ["pairs", "group_of", "started", "one", "other", "here", "there", "member", "group"] ["pairs"] (defScope (topS 4)) := ⟨rfl, rfl, rfl, by decide +kernel, rfl, by decide +kernel, by decide +kernel⟩
theorem ok_linked (T : Top w K mg) : DefOk P w K mg base 1 "linked" (spP (fg K P w tq) 1 f_linked) :=
  def_pure T.d_linked sc_linked (by decide) (fun _ _ _ _ _ _ us hl => match us, hl with | [_], _ => rfl) fun f cdv A outer s H E hr => (by unfold M_linked; exact (PSs.imp (pss_cons (ps_set (i := 1) sc_linked.nd rfl (Or.inl rfl) (pe_dnewN (tq := tq))) (pss_cons (ps_set (i := 2) sc_linked.nd rfl (Or.inl rfl) (pe_lst pa_nil)) (pss_cons (ps_for PassesOwn.never rfl (pi_any (pe_var (i := 0) rfl (Or.inl rfl))) (pg_tup rfl (pgs_cons (pg_name (i := 3) sc_linked.nd rfl (Or.inl rfl)) (pgs_cons (pg_name (i := 4) sc_linked.nd rfl (Or.inl rfl)) pgs_nil))) (pss_cons (ps_if (pt_cmpR (op_inV (tq := tq) hr.units) (pe_var (i := 3) rfl (Or.inl rfl)) (pe_var (i := 1) rfl (Or.inl rfl)) (by rfl)) (pss_one (ps_set (i := 5) sc_linked.nd rfl (Or.inl rfl) (pe_getV (tq := tq) hr.units (pe_var (i := 1) rfl (Or.inl rfl)) (pe_var (i := 3) rfl (Or.inl rfl)) (fun _ _ => rfl)))) (pss_cons (ps_asg2 (pe_lst (pa_cons (pe_var (i := 3) rfl (Or.inl rfl)) pa_nil)) (pg_name (i := 5) sc_linked.nd rfl (Or.inl rfl)) (pg_sub (pe_var (i := 1) rfl (Or.inl rfl)) (pe_var (i := 3) rfl (Or.inl rfl)) (set_dn (tq := tq) hr.units))) (pss_one (ps_expr (pe_bm PySem.F.plainAttrs_list PySem.F.slot_list_append PySem.F.type_list_append mt_append (pe_var (i := 2) rfl (Or.inl rfl)) (pa_cons (pe_var (i := 5) rfl (Or.inl rfl)) pa_nil)))))) (pss_one (ps_if (pt_cmpR (op_notInV (tq := tq) hr.units) (pe_var (i := 4) rfl (Or.inl rfl)) (pe_var (i := 1) rfl (Or.inl rfl)) (by rfl)) (pss_cons (ps_expr (pe_bm PySem.F.plainAttrs_list PySem.F.slot_list_append PySem.F.type_list_append mt_append (pe_var (i := 5) rfl (Or.inl rfl)) (pa_cons (pe_var (i := 4) rfl (Or.inl rfl)) pa_nil))) (pss_one (ps_asg (pe_var (i := 5) rfl (Or.inl rfl)) (pg_sub (pe_var (i := 1) rfl (Or.inl rfl)) (pe_var (i := 4) rfl (Or.inl rfl)) (set_dn (tq := tq) hr.units))))) (pss_one (ps_if (pt_cmpR (op_notInA (tq := tq) hr.u65) (pe_var (i := 4) rfl (Or.inl rfl)) (pe_var (i := 5) rfl (Or.inl rfl)) (by rfl)) (pss_cons (ps_set (i := 6) sc_linked.nd rfl (Or.inl rfl) (pe_getV (tq := tq) hr.units (pe_var (i := 1) rfl (Or.inl rfl)) (pe_var (i := 4) rfl (Or.inl rfl)) (fun _ _ => rfl))) (pss_cons (ps_expr (pe_bm PySem.F.plainAttrs_list PySem.F.slot_list_extend PySem.F.type_list_extend mt_extend (pe_var (i := 5) rfl (Or.inl rfl)) (pa_cons (pe_var (i := 6) rfl (Or.inl rfl)) pa_nil))) (pss_cons (ps_for PassesOwn.never rfl (pi_any (pe_var (i := 6) rfl (Or.inl rfl))) (pg_name (i := 7) sc_linked.nd rfl (Or.inl rfl)) (pss_one (ps_asg (pe_var (i := 5) rfl (Or.inl rfl)) (pg_sub (pe_var (i := 1) rfl (Or.inl rfl)) (pe_var (i := 7) rfl (Or.inl rfl)) (set_dn (tq := tq) hr.units))))) (pss_one (ps_expr (pe_bm0 PySem.F.plainAttrs_list PySem.F.slot_list_clear PySem.F.type_list_clear mt_clear (pe_var (i := 6) rfl (Or.inl rfl)))))))) pss_nil)))))) (jss_one (js_ret (je_new (jn_lc (own := [("group", 8)]) rfl sc_linked.nd (ji_any (jv 2)) (blkOk_by (N := ["pairs", "group_of", "started", "one", "other", "here", "there", "member", "group"]) (sc := defScope (topS 4)) (by decide +kernel)) (fun _ _ _ _ _ => (jg_name (i := 8) sc_linked.nd rfl (.inl rfl))) (fun _ _ _ _ _ => (jts_one (jt_val (jv 8)))) (fun _ _ _ _ _ => (je_tuple (by rfl) T.b_tuple (je_new (jn_sorted hr.units (by rfl) T.b_sorted (jv 8)))))))))))) (link_of (K := fg K P w tq))))
theorem sc_all_groups : FnScope ["members", "found", "first", "later", "group", "member"] ["members", "found"] (defScope (topS 5)) := ⟨rfl, rfl, rfl, by decide +kernel, rfl, by decide +kernel, by decide +kernel⟩
theorem ok_all_groups (T : Top w K mg) : DefOk P w K mg base 1 "all_groups" (spP (fg K P w tq) 2 f_all_groups) :=
  def_pure T.d_all_groups sc_all_groups (by decide) (fun _ _ _ _ _ _ us hl => match us, hl with | [_, _], _ => rfl) fun f cdv A outer s H E hr => (by unfold M_all_groups; exact (jss_cons (js_set (i := 2) sc_all_groups.nd rfl (.inr rfl) (je_dn1 (own := [("group", 4)]) hr.units rfl sc_all_groups.nd (ji_any (jv 1)) (blkOk_by (N := ["members", "found", "first", "later", "group", "member"]) (sc := defScope (topS 5)) (by decide +kernel)) (fun _ _ _ _ _ => (jg_name (i := 4) sc_all_groups.nd rfl (.inl rfl))) (fun _ _ _ _ _ => jts_nil) (fun _ _ _ _ _ => (je_ix (jv 4) je_int (fun _ _ => rfl))) (fun _ _ _ _ _ => (jv 4))))
    (jss_cons (js_set (i := 3) sc_all_groups.nd rfl (.inr rfl) (je_dn2 (own := [("group", 4), ("member", 5)]) (vs1 := [5]) hr.units rfl sc_all_groups.nd (ji_any (jv 1)) (blkOk_by (N := ["members", "found", "first", "later", "group", "member"]) (sc := defScope (topS 5)) (by decide +kernel)) (by decide) (fun _ _ _ _ _ => (jg_name (i := 4) sc_all_groups.nd rfl (.inl rfl))) (fun _ _ _ _ _ => jts_nil) (fun _ _ _ _ _ => (ji_any (je_slice (jv 4) (jo_some je_int) jo_none))) (fun _ _ _ _ _ => (jg_name (i := 5) sc_all_groups.nd rfl (.inl rfl))) (fun _ _ _ _ _ => jts_nil) (fun _ _ _ _ _ => (jv 5)) (fun _ _ _ _ _ => je_bl)))
    (jss_one (js_retNew (jn_lc (own := [("member", 5)]) rfl sc_all_groups.nd (ji_any (jv 0)) (blkOk_by (N := ["members", "found", "first", "later", "group", "member"]) (sc := defScope (topS 5)) (by decide +kernel)) (fun _ _ _ _ _ => (jg_name (i := 5) sc_all_groups.nd rfl (.inl rfl))) (fun _ _ _ _ _ => (jts_one (jt_cmp (od_notInDn hr.units) (jv 5) (jv 3) (by rfl)))) (fun _ _ _ _ _ => (je_getDn2 hr.units (jv 2) (jv 5) (je_tup (ja_cons (jv 5) ja_nil)) ⟨rfl, rfl, rfl, rfl⟩))))))))
theorem sc_is_odd : FnScope ["group", "name", "part"] ["group"] (defScope (topS 6)) := ⟨rfl, rfl, rfl, by decide +kernel, rfl, by decide +kernel, by decide +kernel⟩
theorem ok_is_odd (T : Top w K mg) : DefOk P w K mg base 1 "is_odd" (spP (fg K P w tq) 1 f_is_odd) :=
  def_pure T.d_is_odd sc_is_odd (by decide) (fun _ _ _ _ _ _ us hl => match us, hl with | [_], _ => rfl) fun f cdv A outer s H E hr => (by unfold M_is_odd; exact (jss_one (js_ret (je_cmp od_lt (je_lenSc (own := [("name", 1), ("part", 2)]) rfl sc_is_odd.nd (by rfl) T.b_len (ji_any (jv 0)) (blkOk_by (N := ["group", "name", "part"]) (sc := defScope (topS 6)) (by decide +kernel)) (fun _ _ _ _ _ => (jg_tup rfl (jgs_cons (jg_name (i := 1) sc_is_odd.nd rfl (.inl rfl)) (jgs_cons (jg_name (i := 2) sc_is_odd.nd rfl (.inl rfl)) jgs_nil)))) (fun _ _ _ _ _ => jts_nil) (fun _ _ _ _ _ => (jv 1))) (je_len (by rfl) T.b_len (jv 0)) (nomark _)))))
theorem sc_columns_of : FnScope ["houses", "column", "name", "columns", "rows"] ["houses"] (defScope (topS 9)) := ⟨rfl, rfl, rfl, by decide +kernel, rfl, by decide +kernel, by decide +kernel⟩
theorem ok_columns_of (T : Top w K mg) : DefOk P w K mg base 1 "columns_of" (spP (fg K P w tq) 1 f_columns_of) :=
  def_pure T.d_columns_of sc_columns_of (by decide) (fun _ _ _ _ _ _ us hl => match us, hl with | [_], _ => rfl) fun f cdv A outer s H E hr => (by unfold M_columns_of; exact (jss_one (js_ret (je_new (jn_lc2 (own := [("name", 2), ("columns", 3), ("rows", 4), ("column", 1)]) (vs1 := [1]) rfl sc_columns_of.nd (ji_any (jv 0)) (blkOk_by (N := ["houses", "column", "name", "columns", "rows"]) (sc := defScope (topS 9)) (by decide +kernel)) (by decide) (fun _ _ _ _ _ => (jg_tup rfl (jgs_cons (jg_name (i := 2) sc_columns_of.nd rfl (.inl rfl)) (jgs_cons (jg_tup rfl (jgs_cons (jg_name (i := 3) sc_columns_of.nd rfl (.inl rfl)) (jgs_cons (jg_name (i := 4) sc_columns_of.nd rfl (.inl rfl)) jgs_nil))) jgs_nil)))) (fun _ _ _ _ _ => jts_nil) (fun _ _ _ _ _ => (ji_any (jv 3))) (fun _ _ _ _ _ => (jg_name (i := 1) sc_columns_of.nd rfl (.inl rfl))) (fun _ _ _ _ _ => jts_nil) (fun _ _ _ _ _ => (je_tup (ja_cons (jv 2) (ja_cons (jv 1) ja_nil)))))))))
theorem sc_law_deck : FnScope ["cell_", "turn"] ["cell_", "turn"] (defScope (topS 17)) := ⟨rfl, rfl, rfl, by decide +kernel, rfl, by decide +kernel, by decide +kernel⟩
theorem ok_law_deck (T : Top w K mg) : DefOk P w K mg base 1 "_law_deck" (spP (fg K P w tq) 2 f_law_deck) :=
  def_pure T.d_law_deck sc_law_deck (by decide) (fun _ _ _ _ _ _ us hl => match us, hl with | [_, _], _ => rfl) fun f cdv A outer s H E hr => (by unfold M_law_deck; exact (jss_cons (js_if (jt_cmp od_ge (jv 0) (je_bin od_pow je_int je_int) (nomark _)) (jss_one (js_retNew (jn_lst (ja_cons (je_bin od_sub (jv 0) (je_bin od_pow je_int je_int)) (ja_cons (je_bin od_mod (jv 0) je_int) (ja_cons (jv 1) ja_nil)))))) jss_nil)
    (jss_one (js_retNew (jn_lst (ja_cons je_int (ja_cons (je_bin od_mod (jv 0) je_int) (ja_cons (jv 1) ja_nil))))))))
theorem sc_law_pick : FnScope ["deck", "size", "number", "found"] ["deck", "size"] (defScope (topS 18)) := ⟨rfl, rfl, rfl, by decide +kernel, rfl, by decide +kernel, by decide +kernel⟩
theorem ok_law_pick (T : Top w K mg) : DefOk P w K mg base 1 "_law_pick" (spK (fg K P w tq) 2 f_law_pick) :=
  def_deck T.d_law_pick sc_law_pick (by decide) (fun _ _ _ _ _ _ us hl => match us, hl with | [_, _], _ => rfl) fun f cdv A outer s H E hr => (by unfold M_law_pick; exact (jss_cons (js_if (jt_cmp od_gt (je_ixOwn 0 je_int (fun _ _ => rfl)) je_int (nomark _)) (jss_cons (js_set (i := 3) sc_law_pick.nd rfl (.inl rfl) (je_bin od_mod (je_ixOwn 0 je_int (fun _ _ => rfl)) (jv 1)))
    (jss_cons (js_setIx 0 (je_bin od_fdiv (je_ixOwn 0 je_int (fun _ _ => rfl)) (jv 1)) je_int)
    (jss_one (js_ret (jv 3))))) jss_nil)
    (jss_cons (js_setIx 0 (je_bin od_add (je_ixOwn 0 je_int (fun _ _ => rfl)) je_int) je_int)
    (jss_cons (js_set (i := 2) sc_law_pick.nd rfl (.inl rfl) (je_bin od_mod (je_bin od_pow (je_bin od_add (je_ixOwn 0 je_int (fun _ _ => rfl)) (je_bin od_mul je_int (je_ixOwn 0 je_int (fun _ _ => rfl)))) je_int) je_int))
    (jss_cons (js_set (i := 3) sc_law_pick.nd rfl (.inl rfl) (je_bin od_fdiv (je_bin od_mod (je_bin od_pow (je_bin od_add (jv 2) (je_bin od_mul je_int (je_ixOwn 0 je_int (fun _ _ => rfl)))) je_int) je_int) je_int))
    (jss_one (js_ret (je_bin od_mod (jv 3) (jv 1)))))))))
theorem sc_law_sort : FnScope ["thing"] ["thing"] (defScope (topS 20)) := ⟨rfl, rfl, rfl, by decide +kernel, rfl, by decide +kernel, by decide +kernel⟩
theorem ok_law_sort (T : Top w K mg) : DefOk P w K mg base 1 "_law_sort" (spP (fg K P w tq) 1 f_law_sort) :=
  def_pure T.d_law_sort sc_law_sort (by decide) (fun _ _ _ _ _ _ us hl => match us, hl with | [_], _ => rfl) fun f cdv A outer s H E hr => (by unfold M_law_sort; exact (jss_cons (js_if (jt_val (je_isi (T := "bool") (by rfl) T.b_isinstance (jv 0) (by rfl) T.b_bool (by decide +kernel))) (jss_one (js_ret je_int)) jss_nil)
    (jss_cons (js_if (jt_val (je_isi (T := "int") (by rfl) T.b_isinstance (jv 0) (by rfl) T.b_int (by decide +kernel))) (jss_one (js_ret je_int)) jss_nil)
    (jss_cons (js_if (jt_val (je_isi (T := "str") (by rfl) T.b_isinstance (jv 0) (by rfl) T.b_str (by decide +kernel))) (jss_one (js_ret je_int)) jss_nil)
    (jss_cons (js_if (jt_val (je_isi (T := "list") (by rfl) T.b_isinstance (jv 0) (by rfl) T.b_list (by decide +kernel))) (jss_one (js_ret je_int)) jss_nil)
    (jss_one (js_ret (je_if (jt_val (je_isi (T := "tuple") (by rfl) T.b_isinstance (jv 0) (by rfl) T.b_tuple (by decide +kernel))) je_int je_int))))))))
theorem sc_law_columns_of : FnScope ["houses", "found", "house", "column"] ["houses"] (defScope (topS 26)) := ⟨rfl, rfl, rfl, by decide +kernel, rfl, by decide +kernel, by decide +kernel⟩
theorem ok_law_columns_of (T : Top w K mg) : DefOk P w K mg base 1 "_law_columns_of" (spP (fg K P w tq) 1 f_law_columns_of) :=
  def_pure T.d_law_columns_of sc_law_columns_of (by decide) (fun _ _ _ _ _ _ us hl => match us, hl with | [_], _ => rfl) fun f cdv A outer s H E hr => (by unfold M_law_columns_of; exact (jss_cons (js_set (i := 1) sc_law_columns_of.nd rfl (.inl rfl) (je_new (jn_lst ja_nil)))
    (jss_cons (js_for PassesOwn.never rfl (ji_any (jv 0)) (jg_name (i := 2) sc_law_columns_of.nd rfl (.inr rfl)) (jss_one (js_set (i := 1) sc_law_columns_of.nd rfl (.inl rfl) (je_bin od_add (jv 1) (je_new (jn_lc (own := [("column", 3)]) rfl sc_law_columns_of.nd (ji_any (je_ix (je_ix (jv 2) je_int (fun _ _ => rfl)) je_int (fun _ _ => rfl))) (blkOk_by (N := ["houses", "found", "house", "column"]) (sc := defScope (topS 26)) (by decide +kernel)) (fun _ _ _ _ _ => (jg_name (i := 3) sc_law_columns_of.nd rfl (.inl rfl))) (fun _ _ _ _ _ => jts_nil) (fun _ _ _ _ _ => (je_tup (ja_cons (je_ix (jv 2) je_int (fun _ _ => rfl)) (ja_cons (jv 3) ja_nil))))))))))
    (jss_one (js_ret (jv 1))))))
theorem sc_law_hung : FnScope ["some", "pairs", "found", "left", "lot", "at", "near", "fresh", "other", "a", "b"] ["some", "pairs"] (defScope (topS 29)) := ⟨rfl, rfl, rfl, by decide +kernel, rfl, by decide +kernel, by decide +kernel⟩
theorem ok_law_hung (T : Top w K mg) : DefOk P w K mg base 1 "_law_hung" (spP (fg K P w tq) 2 f_law_hung) :=
  def_pure T.d_law_hung sc_law_hung (by decide) (fun _ _ _ _ _ _ us hl => match us, hl with | [_, _], _ => rfl) fun f cdv A outer s H E hr => (by unfold M_law_hung; exact (jss_cons (js_setOwn (i := 2) sc_law_hung.nd rfl (.inl rfl) (jn_lst ja_nil))
    (jss_cons (js_setOwn (i := 3) sc_law_hung.nd rfl (.inr rfl) (jn_list (by rfl) T.b_list (jv 0)))
    (jss_cons (js_while 50 PassesOwn.never (jt_neOwn 3 hr.units (je_new (jn_lst ja_nil)) (nomark _)) (jss_cons (js_set (i := 4) sc_law_hung.nd rfl (.inr rfl) (je_new (jn_lst (ja_cons (je_pop 3 je_int) ja_nil))))
    (jss_cons (js_set (i := 5) sc_law_hung.nd rfl (.inr rfl) je_int)
    (jss_cons (js_while 50 PassesOwn.never (jt_cmp od_lt (jv 5) (je_len (by rfl) T.b_len (jv 4)) (nomark _)) (jss_cons (js_setLc (i := 6) (own := [("a", 9), ("b", 10)]) rfl rfl rfl sc_law_hung.nd (ji_any (jv 1)) (blkOk_by (N := ["some", "pairs", "found", "left", "lot", "at", "near", "fresh", "other", "a", "b"]) (sc := defScope (topS 29)) (by decide +kernel)) (fun _ _ _ _ _ => (jg_tup rfl (jgs_cons (jg_name (i := 9) sc_law_hung.nd rfl (.inl rfl)) (jgs_cons (jg_name (i := 10) sc_law_hung.nd rfl (.inl rfl)) jgs_nil)))) (fun _ _ _ _ _ => (jts_one (jt_cmp (od_in hr.u65) (je_ix (jv 4) (jv 5) (fun _ _ => rfl)) (je_tup (ja_cons (jv 9) (ja_cons (jv 10) ja_nil))) (by rfl)))) (fun _ _ _ _ _ => (je_if (jt_cmp (od_eq hr.units) (jv 9) (je_ix (jv 4) (jv 5) (fun _ _ => rfl)) (nomark _)) (jv 10) (jv 9))) (sw_true rfl rfl rfl (by decide +kernel)))
    (jss_cons (js_set (i := 7) sc_law_hung.nd rfl (.inr rfl) (je_new (jn_sortSet rfl hr.units (by rfl) T.b_sorted (by rfl) T.b_set (je_new (jn_lc (own := [("other", 8)]) rfl sc_law_hung.nd (ji_any (jv 6)) (blkOk_by (N := ["some", "pairs", "found", "left", "lot", "at", "near", "fresh", "other", "a", "b"]) (sc := defScope (topS 29)) (by decide +kernel)) (fun _ _ _ _ _ => (jg_name (i := 8) sc_law_hung.nd rfl (.inl rfl))) (fun _ _ _ _ _ => (jts_one (jt_cmp (od_in hr.u65) (jv 8) (jv 3) (by rfl)))) (fun _ _ _ _ _ => (jv 8)))))))
    (jss_cons (js_setOwn (i := 3) sc_law_hung.nd rfl (.inr rfl) (jn_lc (own := [("other", 8)]) rfl sc_law_hung.nd (ji_any (jv 3)) (blkOk_by (N := ["some", "pairs", "found", "left", "lot", "at", "near", "fresh", "other", "a", "b"]) (sc := defScope (topS 29)) (by decide +kernel)) (fun _ _ _ _ _ => (jg_name (i := 8) sc_law_hung.nd rfl (.inl rfl))) (fun _ _ _ _ _ => (jts_one (jt_cmp (od_notin hr.u65) (jv 8) (jv 7) (by rfl)))) (fun _ _ _ _ _ => (jv 8))))
    (jss_cons (js_set (i := 4) sc_law_hung.nd rfl (.inr rfl) (je_bin od_add (jv 4) (jv 7)))
    (jss_one (js_set (i := 5) sc_law_hung.nd rfl (.inr rfl) (je_bin od_add (jv 5) je_int))))))))
    (jss_one (js_expr (je_append 2 (je_tuple (by rfl) T.b_tuple (je_new (jn_sorted hr.units (by rfl) T.b_sorted (jv 4)))))))))))
    (jss_one (js_ret (je_new (jn_sorted hr.units (by rfl) T.b_sorted (jv 2)))))))))
theorem sc_law_odd_ones : FnScope ["lots_", "lot", "one"] ["lots_"] (defScope (topS 30)) := ⟨rfl, rfl, rfl, by decide +kernel, rfl, by decide +kernel, by decide +kernel⟩
theorem ok_law_odd_ones (T : Top w K mg) : DefOk P w K mg base 1 "_law_odd_ones" (spP (fg K P w tq) 1 f_law_odd_ones) :=
  def_pure T.d_law_odd_ones sc_law_odd_ones (by decide) (fun _ _ _ _ _ _ us hl => match us, hl with | [_], _ => rfl) fun f cdv A outer s H E hr => (by unfold M_law_odd_ones; exact (jss_one (js_ret (je_new (jn_lc (own := [("lot", 1)]) rfl sc_law_odd_ones.nd (ji_any (jv 0)) (blkOk_by (N := ["lots_", "lot", "one"]) (sc := defScope (topS 30)) (by decide +kernel)) (fun _ _ _ _ _ => (jg_name (i := 1) sc_law_odd_ones.nd rfl (.inl rfl))) (fun _ _ _ _ _ => (jts_one (jt_cmp (od_ne hr.units) (je_lenSet rfl (by rfl) T.b_len (by rfl) T.b_set (je_new (jn_lc (own := [("one", 2)]) rfl sc_law_odd_ones.nd (ji_any (jv 1)) (blkOk_by (N := ["lots_", "lot", "one"]) (by first | rfl | kernel_rfl)) (fun _ _ _ _ _ => (jg_name (i := 2) sc_law_odd_ones.nd rfl (.inl rfl))) (fun _ _ _ _ _ => jts_nil) (fun _ _ _ _ _ => (je_ix (jv 2) je_int (fun _ _ => rfl)))))) (je_len (by rfl) T.b_len (jv 1)) (nomark _)))) (fun _ _ _ _ _ => (jv 1)))))))
theorem sc_law_calls : FnScope ["thing", "some"] ["thing", "some"] (defScope (topS 31)) := ⟨rfl, rfl, rfl, by decide +kernel, rfl, by decide +kernel, by decide +kernel⟩
theorem ok_law_calls (T : Top w K mg) : DefOk P w K mg base 1 "_law_calls" (spP (fg K P w tq) 2 f_law_calls) :=
  def_pure T.d_law_calls sc_law_calls (by decide) (fun _ _ _ _ _ _ us hl => match us, hl with | [_, _], _ => rfl) fun f cdv A outer s H E hr => (by unfold M_law_calls; exact (jss_cons (js_if (jt_w (jw_or (jt_not (jt_val (je_isi (T := "tuple") (by rfl) T.b_isinstance (jv 0) (by rfl) T.b_tuple (by decide +kernel)))) (jw_or (jt_cmp (od_ne hr.units) (je_len (by rfl) T.b_len (jv 0)) je_int (nomark _)) (jw_or1 (jt_not (jt_val (je_isi (T := "str") (by rfl) T.b_isinstance (je_ix (jv 0) je_int (fun _ _ => rfl)) (by rfl) T.b_str (by decide +kernel)))))))) (jss_one (js_ret je_bl)) jss_nil)
    (jss_one (js_ret (je_and (je_isi (T := "str") (by rfl) T.b_isinstance (je_ix (jv 0) je_int (fun _ _ => rfl)) (by rfl) T.b_str (by decide +kernel)) (je_one (je_cmp (od_in hr.u65) (jv 0) (jv 1) (by rfl))))))))
theorem sc_calls_column : FnScope ["houses", "thing", "house", "own", "name", "columns", "rows"] ["houses", "thing"] (defScope (topS 10)) := ⟨rfl, rfl, rfl, by decide +kernel, rfl, by decide +kernel, by decide +kernel⟩
theorem ok_calls_column (T : Top w K mg) (ok_is_pair : DefOk P w K mg base 1 "is_pair" (spP (fg K P w tq) 1 f_is_pair)) : DefOk P w K mg base 2 "calls_column" (spP (fg K P w tq) 2 f_calls_column) :=
  def_pure T.d_calls_column sc_calls_column (by decide) (fun _ _ _ _ _ _ us hl => match us, hl with | [_, _], _ => rfl) fun f cdv A outer s H E hr => (by unfold M_calls_column; exact (jss_cons (js_if (jt_not (jt_val (je_call (ok_is_pair.mono (by decide)) hr (by rfl) (ja_cons (jv 1) ja_nil)))) (jss_one (js_ret je_bl)) jss_nil)
    (jss_cons (js_asg (jv 1) (jg_tup rfl (jgs_cons (jg_name (i := 2) sc_calls_column.nd rfl (.inr rfl)) (jgs_cons (jg_name (i := 3) sc_calls_column.nd rfl (.inr rfl)) jgs_nil))))
    (jss_one (js_ret (je_any rfl (by rfl) T.b_any (je_new (jn_lc (own := [("name", 4), ("columns", 5), ("rows", 6)]) rfl sc_calls_column.nd (ji_any (jv 0)) (blkOk_by (N := ["houses", "thing", "house", "own", "name", "columns", "rows"]) (sc := defScope (topS 10)) (by decide +kernel)) (fun _ _ _ _ _ => (jg_tup rfl (jgs_cons (jg_name (i := 4) sc_calls_column.nd rfl (.inl rfl)) (jgs_cons (jg_tup rfl (jgs_cons (jg_name (i := 5) sc_calls_column.nd rfl (.inl rfl)) (jgs_cons (jg_name (i := 6) sc_calls_column.nd rfl (.inl rfl)) jgs_nil))) jgs_nil)))) (fun _ _ _ _ _ => jts_nil) (fun _ _ _ _ _ => (je_and (je_cmp (od_eq hr.units) (jv 4) (jv 2) (nomark _)) (je_one (je_cmp (od_in hr.u65) (jv 3) (jv 5) (by rfl)))))))))))))
theorem sc_kinds : FnScope ["houses", "likes"] ["houses", "likes"] (defScope (topS 14)) := ⟨rfl, rfl, rfl, by decide +kernel, rfl, by decide +kernel, by decide +kernel⟩
theorem ok_kinds (T : Top w K mg) (ok_linked : DefOk P w K mg base 1 "linked" (spP (fg K P w tq) 1 f_linked)) (ok_all_groups : DefOk P w K mg base 1 "all_groups" (spP (fg K P w tq) 2 f_all_groups)) (ok_columns_of : DefOk P w K mg base 1 "columns_of" (spP (fg K P w tq) 1 f_columns_of)) : DefOk P w K mg base 2 "kinds" (spP (fg K P w tq) 2 f_kinds) :=
  def_pure T.d_kinds sc_kinds (by decide) (fun _ _ _ _ _ _ us hl => match us, hl with | [_, _], _ => rfl) fun f cdv A outer s H E hr => (by unfold M_kinds; exact (jss_one (js_retNew (jn_call (ok_all_groups.mono (by decide)) hr (by rfl) (ja_cons (je_call (ok_columns_of.mono (by decide)) hr (by rfl) (ja_cons (jv 0) ja_nil)) (ja_cons (je_call (ok_linked.mono (by decide)) hr (by rfl) (ja_cons (jv 1) ja_nil)) ja_nil))))))
theorem sc_odd_kinds : FnScope ["houses", "likes", "kind"] ["houses", "likes"] (defScope (topS 15)) := ⟨rfl, rfl, rfl, by decide +kernel, rfl, by decide +kernel, by decide +kernel⟩
theorem ok_odd_kinds (T : Top w K mg) (ok_linked : DefOk P w K mg base 1 "linked" (spP (fg K P w tq) 1 f_linked)) (ok_is_odd : DefOk P w K mg base 1 "is_odd" (spP (fg K P w tq) 1 f_is_odd)) : DefOk P w K mg base 2 "odd_kinds" (spP (fg K P w tq) 2 f_odd_kinds) :=
  def_pure T.d_odd_kinds sc_odd_kinds (by decide) (fun _ _ _ _ _ _ us hl => match us, hl with | [_, _], _ => rfl) fun f cdv A outer s H E hr => (by unfold M_odd_kinds; exact (jss_one (js_retNew (jn_sorted hr.units (by rfl) T.b_sorted (je_new (jn_lc (own := [("kind", 2)]) rfl sc_odd_kinds.nd (ji_any (je_call (ok_linked.mono (by decide)) hr (by rfl) (ja_cons (jv 1) ja_nil))) (blkOk_by (N := ["houses", "likes", "kind"]) (sc := defScope (topS 15)) (by decide +kernel)) (fun _ _ _ _ _ => (jg_name (i := 2) sc_odd_kinds.nd rfl (.inl rfl))) (fun _ _ _ _ _ => (jts_one (jt_val (je_call (ok_is_odd.mono (by decide)) hr (by rfl) (ja_cons (jv 2) ja_nil))))) (fun _ _ _ _ _ => (jv 2))))))))
theorem sc_law_one : FnScope ["deck", "some"] ["deck", "some"] (defScope (topS 19)) := ⟨rfl, rfl, rfl, by decide +kernel, rfl, by decide +kernel, by decide +kernel⟩
theorem ok_law_one (T : Top w K mg) (ok_law_pick : DefOk P w K mg base 1 "_law_pick" (spK (fg K P w tq) 2 f_law_pick)) : DefOk P w K mg base 2 "_law_one" (spK (fg K P w tq) 2 f_law_one) :=
  def_deck T.d_law_one sc_law_one (by decide) (fun _ _ _ _ _ _ us hl => match us, hl with | [_, _], _ => rfl) fun f cdv A outer s H E hr => (by unfold M_law_one; exact (jss_one (js_ret (je_ix (jv 1) (je_callK 0 (ok_law_pick.mono (by decide)) hr (by rfl) (ja_cons (je_len (by rfl) T.b_len (jv 1)) ja_nil)) (fun _ _ => rfl)))))
theorem sc_law_are_likes : FnScope ["houses", "thing", "some", "last", "pair"] ["houses", "thing"] (defScope (topS 32)) := ⟨rfl, rfl, rfl, by decide +kernel, rfl, by decide +kernel, by decide +kernel⟩
theorem ok_law_are_likes (T : Top w K mg) (ok_law_columns_of : DefOk P w K mg base 1 "_law_columns_of" (spP (fg K P w tq) 1 f_law_columns_of)) (ok_law_calls : DefOk P w K mg base 1 "_law_calls" (spP (fg K P w tq) 2 f_law_calls)) : DefOk P w K mg base 2 "_law_are_likes" (spP (fg K P w tq) 2 f_law_are_likes) :=
  def_pure T.d_law_are_likes sc_law_are_likes (by decide) (fun _ _ _ _ _ _ us hl => match us, hl with | [_, _], _ => rfl) fun f cdv A outer s H E hr => (by unfold M_law_are_likes; exact (jss_cons (js_set (i := 2) sc_law_are_likes.nd rfl (.inl rfl) (je_call (ok_law_columns_of.mono (by decide)) hr (by rfl) (ja_cons (jv 0) ja_nil)))
    (jss_cons (js_if (jt_w (jw_or (jt_not (jt_val (je_isi (T := "tuple") (by rfl) T.b_isinstance (jv 1) (by rfl) T.b_tuple (by decide +kernel)))) (jw_or1 (jt_cmp od_gt (je_len (by rfl) T.b_len (jv 1)) je_int (nomark _))))) (jss_one (js_ret je_bl)) jss_nil)
    (jss_cons (js_set (i := 3) sc_law_are_likes.nd rfl (.inl rfl) je_non)
    (jss_cons (js_for PassesOwn.never rfl (ji_any (jv 1)) (jg_name (i := 4) sc_law_are_likes.nd rfl (.inl rfl)) (jss_cons (js_if (jt_w (jw_or (jt_not (jt_val (je_isi (T := "tuple") (by rfl) T.b_isinstance (jv 4) (by rfl) T.b_tuple (by decide +kernel)))) (jw_or1 (jt_cmp (od_ne hr.units) (je_len (by rfl) T.b_len (jv 4)) je_int (nomark _))))) (jss_one (js_ret je_bl)) jss_nil)
    (jss_cons (js_if (jt_w (jw_or (jt_not (jt_val (je_call (ok_law_calls.mono (by decide)) hr (by rfl) (ja_cons (je_ix (jv 4) je_int (fun _ _ => rfl)) (ja_cons (jv 2) ja_nil))))) (jw_or (jt_not (jt_val (je_call (ok_law_calls.mono (by decide)) hr (by rfl) (ja_cons (je_ix (jv 4) je_int (fun _ _ => rfl)) (ja_cons (jv 2) ja_nil))))) (jw_or1 (jt_cmp od_ge (je_ix (je_ix (jv 4) je_int (fun _ _ => rfl)) je_int (fun _ _ => rfl)) (je_ix (je_ix (jv 4) je_int (fun _ _ => rfl)) je_int (fun _ _ => rfl)) (nomark _)))))) (jss_one (js_ret je_bl)) jss_nil)
    (jss_cons (js_if (jt_w (jw_and (jt_cmp od_isnot (jv 3) je_non (nomark _)) (jw_and1 (jt_not (jt_cmp (od_ltA hr.units) (jv 3) (jv 4) (nomark _)))))) (jss_one (js_ret je_bl)) jss_nil)
    (jss_one (js_set (i := 3) sc_law_are_likes.nd rfl (.inl rfl) (jv 4)))))))
    (jss_one (js_ret je_bl)))))))
theorem sc_law_odd : FnScope ["deck", "some"] ["deck"] (defScope (topS 22)) := ⟨rfl, rfl, rfl, by decide +kernel, rfl, by decide +kernel, by decide +kernel⟩
theorem ok_law_odd (T : Top w K mg) (ok_law_one : DefOk P w K mg base 2 "_law_one" (spK (fg K P w tq) 2 f_law_one)) : DefOk P w K mg base 3 "_law_odd" (spK (fg K P w tq) 1 f_law_odd) :=
  def_deck T.d_law_odd sc_law_odd (by decide) (fun _ _ _ _ _ _ us hl => match us, hl with | [_], _ => rfl) fun f cdv A outer s H E hr => (by unfold M_law_odd; exact (jss_cons (js_set (i := 1) sc_law_odd.nd rfl (.inl rfl) (je_new (jn_lst (ja_cons je_non (ja_cons je_bl (ja_cons je_str (ja_cons je_str (ja_cons (je_tup ja_nil) (ja_cons (je_new (jn_lst ja_nil)) (ja_cons (je_tup (ja_cons (je_tup ja_nil) ja_nil)) (ja_cons je_int (ja_cons (je_neg je_int) (ja_cons (je_tup (ja_cons je_str (ja_cons je_str ja_nil))) (ja_cons (je_tup (ja_cons je_str (ja_cons je_int ja_nil))) (ja_cons (je_bin od_pow je_int je_int) (ja_cons (je_tup (ja_cons je_str (ja_cons je_bl ja_nil))) (ja_cons (je_tup (ja_cons je_int (ja_cons je_int ja_nil))) (ja_cons je_str ja_nil))))))))))))))))))
    (jss_one (js_ret (je_callK 0 (ok_law_one.mono (by decide)) hr (by rfl) (ja_cons (jv 1) ja_nil))))))
theorem sc_law_worth : FnScope ["deck"] ["deck"] (defScope (topS 24)) := ⟨rfl, rfl, rfl, by decide +kernel, rfl, by decide +kernel, by decide +kernel⟩
theorem ok_law_worth (T : Top w K mg) (ok_law_pick : DefOk P w K mg base 1 "_law_pick" (spK (fg K P w tq) 2 f_law_pick)) (ok_law_one : DefOk P w K mg base 2 "_law_one" (spK (fg K P w tq) 2 f_law_one)) : DefOk P w K mg base 3 "_law_worth" (spK (fg K P w tq) 1 f_law_worth) :=
  def_deck T.d_law_worth sc_law_worth (by decide) (fun _ _ _ _ _ _ us hl => match us, hl with | [_], _ => rfl) fun f cdv A outer s H E hr => (by unfold M_law_worth; exact (jss_one (js_ret (je_callK 0 (ok_law_one.mono (by decide)) hr (by rfl) (ja_cons (je_new (jn_lst (ja_cons je_non (ja_cons je_int (ja_cons je_int (ja_cons je_int (ja_cons je_int (ja_cons je_int (ja_cons je_str (ja_cons je_str (ja_cons (je_bin od_sub (je_callK 0 (ok_law_pick.mono (by decide)) hr (by rfl) (ja_cons je_int ja_nil)) je_int) ja_nil))))))))))) ja_nil)))))
theorem sc_law_pairs : FnScope ["deck", "some", "most", "found", "turn", "one", "other"] ["deck", "some", "most"] (defScope (topS 27)) := ⟨rfl, rfl, rfl, by decide +kernel, rfl, by decide +kernel, by decide +kernel⟩
theorem ok_law_pairs (T : Top w K mg) (ok_law_pick : DefOk P w K mg base 1 "_law_pick" (spK (fg K P w tq) 2 f_law_pick)) (ok_law_one : DefOk P w K mg base 2 "_law_one" (spK (fg K P w tq) 2 f_law_one)) : DefOk P w K mg base 3 "_law_pairs" (spK (fg K P w tq) 3 f_law_pairs) :=
  def_deck T.d_law_pairs sc_law_pairs (by decide) (fun _ _ _ _ _ _ us hl => match us, hl with | [_, _, _], _ => rfl) fun f cdv A outer s H E hr => (by unfold M_law_pairs; exact (jss_cons (js_setOwn (i := 3) sc_law_pairs.nd rfl (.inl rfl) (jn_lst ja_nil))
    (jss_cons (js_for PassesOwn.never rfl (ji_range1 (by rfl) T.b_range (je_callK 0 (ok_law_pick.mono (by decide)) hr (by rfl) (ja_cons (je_bin od_add (jv 2) je_int) ja_nil))) (jg_name (i := 4) sc_law_pairs.nd rfl (.inl rfl)) (jss_one (js_if (jt_cmp (od_ne hr.units) (jv 1) (je_new (jn_lst ja_nil)) (nomark _)) (jss_cons (js_asg (je_new (jn_sorted hr.units (by rfl) T.b_sorted (je_new (jn_lst (ja_cons (je_callK 0 (ok_law_one.mono (by decide)) hr (by rfl) (ja_cons (jv 1) ja_nil)) (ja_cons (je_callK 0 (ok_law_one.mono (by decide)) hr (by rfl) (ja_cons (jv 1) ja_nil)) ja_nil)))))) (jg_unl rfl (jgs_cons (jg_name (i := 5) sc_law_pairs.nd rfl (.inl rfl)) (jgs_cons (jg_name (i := 6) sc_law_pairs.nd rfl (.inl rfl)) jgs_nil))))
    (jss_one (js_if (jt_cmp (od_ne hr.units) (je_ix (jv 5) je_int (fun _ _ => rfl)) (je_ix (jv 6) je_int (fun _ _ => rfl)) (nomark _)) (jss_one (js_expr (je_append 3 (je_tup (ja_cons (jv 5) (ja_cons (jv 6) ja_nil)))))) jss_nil))) jss_nil)))
    (jss_one (js_ret (je_tuple (by rfl) T.b_tuple (je_new (jn_sortSet rfl hr.units (by rfl) T.b_sorted (by rfl) T.b_set (jv 3)))))))))
theorem sc_is_link__calls_column : FnScope ["calls", "houses", "thing", "one", "other", "part"] ["calls", "houses", "thing"] (defScope (topS 11)) := ⟨rfl, rfl, rfl, by decide +kernel, rfl, by decide +kernel, by decide +kernel⟩
theorem ok_is_link__calls_column (T : Top w K mg) (ok_is_pair : DefOk P w K mg base 1 "is_pair" (spP (fg K P w tq) 1 f_is_pair)) (ok_calls_column : DefOk P w K mg base 2 "calls_column" (spP (fg K P w tq) 2 f_calls_column)) : DefOk P w K mg base 3 "is_link" (spF (fg K P w tq) "calls_column" 3 f_is_link__calls_column) :=
  def_fun T.d_is_link sc_is_link__calls_column (by decide) (fun _ _ _ _ _ _ us hl => match us, hl with | [_, _, _], _ => rfl) fun f cdv A outer s H E hr => (by unfold M_is_link__calls_column; exact (jss_cons (js_if (jt_w (jw_or (jt_not (jt_val (je_call (ok_is_pair.mono (by decide)) hr (by rfl) (ja_cons (jv 2) ja_nil)))) (jw_or1 (jt_not (jt_val (je_all rfl (by rfl) T.b_all (je_new (jn_lc (own := [("part", 5)]) rfl sc_is_link__calls_column.nd (ji_any (jv 2)) (blkOk_by (N := ["calls", "houses", "thing", "one", "other", "part"]) (sc := defScope (topS 11)) (by decide +kernel)) (fun _ _ _ _ _ => (jg_name (i := 5) sc_is_link__calls_column.nd rfl (.inl rfl))) (fun _ _ _ _ _ => jts_nil) (fun _ _ _ _ _ => (je_callF 0 (ok_calls_column.mono (by decide)) T.n_calls_column hr (ja_cons (jv 1) (ja_cons (jv 5) ja_nil)))))))))))) (jss_one (js_ret je_bl)) jss_nil)
    (jss_cons (js_asg (jv 2) (jg_tup rfl (jgs_cons (jg_name (i := 3) sc_is_link__calls_column.nd rfl (.inl rfl)) (jgs_cons (jg_name (i := 4) sc_is_link__calls_column.nd rfl (.inl rfl)) jgs_nil))))
    (jss_one (js_ret (je_cmp od_lt (je_ix (jv 3) je_int (fun _ _ => rfl)) (je_ix (jv 4) je_int (fun _ _ => rfl)) (nomark _)))))))
theorem sc_law_houses : FnScope ["deck", "most", "rows_most", "found", "name", "columns", "rows", "number", "one"] ["deck", "most", "rows_most"] (defScope (topS 25)) := ⟨rfl, rfl, rfl, by decide +kernel, rfl, by decide +kernel, by decide +kernel⟩
theorem ok_law_houses (T : Top w K mg) (ok_law_pick : DefOk P w K mg base 1 "_law_pick" (spK (fg K P w tq) 2 f_law_pick)) (ok_law_worth : DefOk P w K mg base 3 "_law_worth" (spK (fg K P w tq) 1 f_law_worth)) : DefOk P w K mg base 4 "_law_houses" (spK (fg K P w tq) 3 f_law_houses) :=
  def_deck T.d_law_houses sc_law_houses (by decide) (fun _ _ _ _ _ _ us hl => match us, hl with | [_, _, _], _ => rfl) fun f cdv A outer s H E hr => (by unfold M_law_houses; exact (jss_cons (js_setOwn (i := 3) sc_law_houses.nd rfl (.inl rfl) (jn_lst ja_nil))
    (jss_cons (js_for PassesOwn.never rfl (ji_any (je_slice (je_new (jn_lst (ja_cons je_str (ja_cons je_str (ja_cons je_str (ja_cons je_str ja_nil)))))) jo_none (jo_some (je_bin od_add je_int (je_callK 0 (ok_law_pick.mono (by decide)) hr (by rfl) (ja_cons (jv 1) ja_nil)))))) (jg_name (i := 4) sc_law_houses.nd rfl (.inl rfl)) (jss_cons (js_set (i := 5) sc_law_houses.nd rfl (.inl rfl) (je_tuple (by rfl) T.b_tuple (je_new (jn_lc (own := [("one", 8)]) rfl sc_law_houses.nd (ji_any (je_new (jn_lst (ja_cons je_str (ja_cons je_str (ja_cons je_str (ja_cons je_str ja_nil))))))) (blkOk_by (N := ["deck", "most", "rows_most", "found", "name", "columns", "rows", "number", "one"]) (sc := defScope (topS 25)) (by decide +kernel)) (fun _ _ _ _ _ => (jg_name (i := 8) sc_law_houses.nd rfl (.inl rfl))) (fun _ _ _ _ _ => (jts_one (jt_cmp od_gt (je_callK 0 (ok_law_pick.mono (by decide)) hr (by rfl) (ja_cons je_int ja_nil)) je_int (nomark _)))) (fun _ _ _ _ _ => (jv 8))))))
    (jss_cons (js_set (i := 5) sc_law_houses.nd rfl (.inl rfl) (je_if (jt_cmp (od_ne hr.units) (jv 5) (je_tup ja_nil) (nomark _)) (jv 5) (je_tup (ja_cons je_str ja_nil))))
    (jss_cons (js_setOwn (i := 6) sc_law_houses.nd rfl (.inl rfl) (jn_lst ja_nil))
    (jss_cons (js_for PassesOwn.never rfl (ji_range1 (by rfl) T.b_range (je_callK 0 (ok_law_pick.mono (by decide)) hr (by rfl) (ja_cons (je_bin od_add (jv 2) je_int) ja_nil))) (jg_name (i := 7) sc_law_houses.nd rfl (.inl rfl)) (jss_one (js_expr (je_append 6 (je_tup (ja_cons (je_bin od_add (je_bin od_mul je_int (jv 7)) (je_callK 0 (ok_law_pick.mono (by decide)) hr (by rfl) (ja_cons je_int ja_nil))) (ja_cons (je_tuple (by rfl) T.b_tuple (je_new (jn_lc (own := [("one", 8)]) rfl sc_law_houses.nd (ji_any (jv 5)) (blkOk_by (N := ["deck", "most", "rows_most", "found", "name", "columns", "rows", "number", "one"]) (sc := defScope (topS 25)) (by decide +kernel)) (fun _ _ _ _ _ => (jg_name (i := 8) sc_law_houses.nd rfl (.inl rfl))) (fun _ _ _ _ _ => jts_nil) (fun _ _ _ _ _ => (je_callK 0 (ok_law_worth.mono (by decide)) hr (by rfl) ja_nil))))) ja_nil)))))))
    (jss_one (js_expr (je_append 3 (je_tup (ja_cons (jv 4) (ja_cons (je_tup (ja_cons (jv 5) (ja_cons (je_tuple (by rfl) T.b_tuple (jv 6)) ja_nil))) ja_nil)))))))))))
    (jss_one (js_ret (je_tuple (by rfl) T.b_tuple (jv 3)))))))
theorem sc_law_likes : FnScope ["deck", "houses", "odd", "some", "found", "one", "other"] ["deck", "houses", "odd"] (defScope (topS 28)) := ⟨rfl, rfl, rfl, by decide +kernel, rfl, by decide +kernel, by decide +kernel⟩
theorem ok_law_likes (T : Top w K mg) (ok_law_pick : DefOk P w K mg base 1 "_law_pick" (spK (fg K P w tq) 2 f_law_pick)) (ok_law_columns_of : DefOk P w K mg base 1 "_law_columns_of" (spP (fg K P w tq) 1 f_law_columns_of)) (ok_law_pairs : DefOk P w K mg base 3 "_law_pairs" (spK (fg K P w tq) 3 f_law_pairs)) : DefOk P w K mg base 4 "_law_likes" (spK (fg K P w tq) 3 f_law_likes) :=
  def_deck T.d_law_likes sc_law_likes (by decide) (fun _ _ _ _ _ _ us hl => match us, hl with | [_, _, _], _ => rfl) fun f cdv A outer s H E hr => (by unfold M_law_likes; exact (jss_cons (js_set (i := 3) sc_law_likes.nd rfl (.inl rfl) (je_call (ok_law_columns_of.mono (by decide)) hr (by rfl) (ja_cons (jv 1) ja_nil)))
    (jss_cons (js_setOwn (i := 4) sc_law_likes.nd rfl (.inl rfl) (jn_lst ja_nil))
    (jss_cons (js_for PassesOwn.never rfl (ji_any (jv 3)) (jg_name (i := 5) sc_law_likes.nd rfl (.inl rfl)) (jss_one (js_for PassesOwn.never rfl (ji_any (jv 3)) (jg_name (i := 6) sc_law_likes.nd rfl (.inl rfl)) (jss_one (js_if (jt_w (jw_and (jt_cmp od_lt (je_ix (jv 5) je_int (fun _ _ => rfl)) (je_ix (jv 6) je_int (fun _ _ => rfl)) (nomark _)) (jw_and (jt_cmp (od_eq hr.units) (je_ix (jv 5) je_int (fun _ _ => rfl)) (je_ix (jv 6) je_int (fun _ _ => rfl)) (nomark _)) (jw_and1 (jt_cmp od_gt (je_callK 0 (ok_law_pick.mono (by decide)) hr (by rfl) (ja_cons je_int ja_nil)) je_int (nomark _)))))) (jss_one (js_expr (je_append 4 (je_tup (ja_cons (jv 5) (ja_cons (jv 6) ja_nil)))))) jss_nil)))))
    (jss_cons (js_if (jt_val (jv 2)) (jss_one (js_set (i := 4) sc_law_likes.nd rfl (.inl rfl) (je_bin od_add (je_slice (jv 4) jo_none (jo_some je_int)) (je_new (jn_list (by rfl) T.b_list (je_callK 0 (ok_law_pairs.mono (by decide)) hr (by rfl) (ja_cons (jv 3) (ja_cons je_int ja_nil)))))))) jss_nil)
    (jss_one (js_ret (je_tuple (by rfl) T.b_tuple (je_new (jn_sortSet rfl hr.units (by rfl) T.b_sorted (by rfl) T.b_set (je_slice (jv 4) jo_none (jo_some je_int))))))))))))
theorem sc_are_links__calls_column : FnScope ["calls", "houses", "thing", "pair"] ["calls", "houses", "thing"] (defScope (topS 12)) := ⟨rfl, rfl, rfl, by decide +kernel, rfl, by decide +kernel, by decide +kernel⟩
theorem ok_are_links__calls_column (T : Top w K mg) (ok_is_tuple : DefOk P w K mg base 1 "is_tuple" (spP (fg K P w tq) 3 f_is_tuple)) (ok_rises : DefOk P w K mg base 1 "rises" (spP (fg K P w tq) 1 f_rises)) (ok_is_link__calls_column : DefOk P w K mg base 3 "is_link" (spF (fg K P w tq) "calls_column" 3 f_is_link__calls_column)) : DefOk P w K mg base 4 "are_links" (spF (fg K P w tq) "calls_column" 3 f_are_links__calls_column) :=
  def_fun T.d_are_links sc_are_links__calls_column (by decide) (fun _ _ _ _ _ _ us hl => match us, hl with | [_, _, _], _ => rfl) fun f cdv A outer s H E hr => (by unfold M_are_links__calls_column; exact (jss_cons (js_if (jt_not (jt_val (je_call (ok_is_tuple.mono (by decide)) hr (by rfl) (ja_cons (jv 2) (ja_cons je_int (ja_cons (je_gint (by rfl) T.c_MOST_LINKS.ex) ja_nil)))))) (jss_one (js_ret je_bl)) jss_nil)
    (jss_one (js_ret (je_and (je_all rfl (by rfl) T.b_all (je_new (jn_lc (own := [("pair", 3)]) rfl sc_are_links__calls_column.nd (ji_any (jv 2)) (blkOk_by (N := ["calls", "houses", "thing", "pair"]) (sc := defScope (topS 12)) (by decide +kernel)) (fun _ _ _ _ _ => (jg_name (i := 3) sc_are_links__calls_column.nd rfl (.inl rfl))) (fun _ _ _ _ _ => jts_nil) (fun _ _ _ _ _ => (je_callV 0 (ok_is_link__calls_column.mono (by decide)) T.n_calls_column hr (by rfl) (ja_cons (jv 1) (ja_cons (jv 3) ja_nil))))))) (je_one (je_call (ok_rises.mono (by decide)) hr (by rfl) (ja_cons (jv 2) ja_nil))))))))
theorem sc_are_likes : FnScope ["houses", "thing"] ["houses", "thing"] (defScope (topS 13)) := ⟨rfl, rfl, rfl, by decide +kernel, rfl, by decide +kernel, by decide +kernel⟩
theorem ok_are_likes (T : Top w K mg) (ok_are_links__calls_column : DefOk P w K mg base 4 "are_links" (spF (fg K P w tq) "calls_column" 3 f_are_links__calls_column)) : DefOk P w K mg base 5 "are_likes" (spP (fg K P w tq) 2 f_are_likes) :=
  def_pure T.d_are_likes sc_are_likes (by decide) (fun _ _ _ _ _ _ us hl => match us, hl with | [_, _], _ => rfl) fun f cdv A outer s H E hr => (by unfold M_are_likes; exact (jss_one (js_ret (je_callG (ok_are_links__calls_column.mono (by decide)) T.n_calls_column hr (by rfl) (by rfl) (ja_cons (jv 0) (ja_cons (jv 1) ja_nil))))))
theorem sc_law_same : FnScope ["told", "due", "k", "part"] ["told", "due"] (defScope (topS 21)) := ⟨rfl, rfl, rfl, by decide +kernel, rfl, by decide +kernel, by decide +kernel⟩
theorem okr_law_same (T : Top w K mg) (ok_law_sort : DefOk P w K mg base 1 "_law_sort" (spP (fg K P w tq) 1 f_law_sort)) {k : Nat} {fr : Fp} (hk : 1 ≤ k) (okr : DefOk P w K mg base k "_law_same" (spP (fg K P w tq) 2 fr)) : DefOk P w K mg base (k + 1) "_law_same" (spP (fg K P w tq) 2 (runP 4 (M_law_same fr))) :=
  def_pure T.d_law_same sc_law_same (by decide) (fun _ _ _ _ _ _ us hl => match us, hl with | [_, _], _ => rfl) fun f cdv A outer s H E hr => (by unfold M_law_same; exact (jss_cons (js_if (jt_cmp (od_ne hr.units) (je_call (ok_law_sort.mono (by omega)) hr (by rfl) (ja_cons (jv 0) ja_nil)) (je_call (ok_law_sort.mono (by omega)) hr (by rfl) (ja_cons (jv 1) ja_nil)) (nomark _)) (jss_one (js_ret je_bl)) jss_nil)
    (jss_cons (js_if (jt_w (jw_and (jt_cmp od_gt (je_call (ok_law_sort.mono (by omega)) hr (by rfl) (ja_cons (jv 0) ja_nil)) je_int (nomark _)) (jw_and1 (jt_cmp od_lt (je_call (ok_law_sort.mono (by omega)) hr (by rfl) (ja_cons (jv 0) ja_nil)) je_int (nomark _))))) (jss_cons (js_if (jt_cmp (od_ne hr.units) (je_len (by rfl) T.b_len (jv 0)) (je_len (by rfl) T.b_len (jv 1)) (nomark _)) (jss_one (js_ret je_bl)) jss_nil)
    (jss_one (js_ret (je_cmp (od_eq hr.units) (je_new (jn_lc (own := [("k", 2), ("part", 3)]) rfl sc_law_same.nd (ji_enumA (by rfl) T.b_enumerate (jv 0)) (blkOk_by (N := ["told", "due", "k", "part"]) (sc := defScope (topS 21)) (by decide +kernel)) (fun _ _ _ _ _ => (jg_tup rfl (jgs_cons (jg_name (i := 2) sc_law_same.nd rfl (.inl rfl)) (jgs_cons (jg_name (i := 3) sc_law_same.nd rfl (.inl rfl)) jgs_nil)))) (fun _ _ _ _ _ => (jts_one (jt_not (jt_val (je_call okr hr (by rfl) (ja_cons (jv 3) (ja_cons (je_ix (jv 1) (jv 2) (fun _ _ => rfl)) ja_nil))))))) (fun _ _ _ _ _ => (jv 2)))) (je_new (jn_lst ja_nil)) (nomark _))))) jss_nil)
    (jss_one (js_ret (je_cmp (od_eq hr.units) (jv 0) (jv 1) (nomark _)))))))
theorem okn_law_same (T : Top w K mg) (ok_law_sort : DefOk P w K mg base 1 "_law_sort" (spP (fg K P w tq) 1 f_law_sort)) : ∀ n, DefOk P w K mg base (1 + n) "_law_same" (spP (fg K P w tq) 2 (f_law_same n))
  | 0 => def_noneP T.d_law_same (ps := ["told", "due"]) (fun _ _ _ _ _ _ us hl => match us, hl with | [_, _], _ => rfl)
  | n + 1 => okr_law_same T ok_law_sort (Nat.le_add_right _ _) (okn_law_same T ok_law_sort n)
theorem ok_law_same (T : Top w K mg) (ok_law_sort : DefOk P w K mg base 1 "_law_sort" (spP (fg K P w tq) 1 f_law_sort)) : DefOk P w K mg base 21 "_law_same" (spP (fg K P w tq) 2 (f_law_same 20)) := okn_law_same T ok_law_sort 20
theorem sc_law_spoilt : FnScope ["deck", "thing", "rows", "at", "other"] ["deck", "thing"] (defScope (topS 23)) := ⟨rfl, rfl, rfl, by decide +kernel, rfl, by decide +kernel, by decide +kernel⟩
theorem okr_law_spoilt (T : Top w K mg) (ok_law_pick : DefOk P w K mg base 1 "_law_pick" (spK (fg K P w tq) 2 f_law_pick)) {k : Nat} {fr : Fk} (hk : 1 ≤ k) (okr : DefOk P w K mg base k "_law_spoilt" (spK (fg K P w tq) 2 fr)) : DefOk P w K mg base (k + 1) "_law_spoilt" (spK (fg K P w tq) 2 (runK 5 (M_law_spoilt fr))) :=
  def_deck T.d_law_spoilt sc_law_spoilt (by decide) (fun _ _ _ _ _ _ us hl => match us, hl with | [_, _], _ => rfl) fun f cdv A outer s H E hr => (by unfold M_law_spoilt; exact (jss_cons (js_if (jt_w (jw_and (jt_val (je_isi2 (S := "tuple") (T := "list") (by rfl) T.b_isinstance (jv 1) (by rfl) T.b_tuple (by decide +kernel) (by rfl) T.b_list (by decide +kernel))) (jw_and (jt_cmp od_gt (je_len (by rfl) T.b_len (jv 1)) je_int (nomark _)) (jw_and1 (jt_cmp od_gt (je_callK 0 (ok_law_pick.mono (by omega)) hr (by rfl) (ja_cons je_int ja_nil)) je_int (nomark _)))))) (jss_cons (js_setOwn (i := 2) sc_law_spoilt.nd rfl (.inl rfl) (jn_list (by rfl) T.b_list (jv 1)))
    (jss_cons (js_set (i := 3) sc_law_spoilt.nd rfl (.inl rfl) (je_callK 0 (ok_law_pick.mono (by omega)) hr (by rfl) (ja_cons (je_lenOwn 2 (by rfl) T.b_len) ja_nil)))
    (jss_cons (js_setIx 2 (je_callK 0 okr hr (by rfl) (ja_cons (je_ixOwn 2 (jv 3) (fun _ _ => rfl)) ja_nil)) (jv 3))
    (jss_one (js_ret (je_if (jt_val (je_isi (T := "tuple") (by rfl) T.b_isinstance (jv 1) (by rfl) T.b_tuple (by decide +kernel))) (je_tuple (by rfl) T.b_tuple (jv 2)) (jv 2))))))) jss_nil)
    (jss_cons (js_if (jt_val (je_isi2 (S := "tuple") (T := "list") (by rfl) T.b_isinstance (jv 1) (by rfl) T.b_tuple (by decide +kernel) (by rfl) T.b_list (by decide +kernel))) (jss_cons (js_set (i := 4) sc_law_spoilt.nd rfl (.inl rfl) (je_if (jt_val (je_isi (T := "tuple") (by rfl) T.b_isinstance (jv 1) (by rfl) T.b_tuple (by decide +kernel))) (je_new (jn_list (by rfl) T.b_list (jv 1))) (je_tuple (by rfl) T.b_tuple (jv 1))))
    (jss_one (js_ret (je_ix (je_new (jn_lst (ja_cons (jv 4) (ja_cons (je_bin od_add (jv 1) (je_slice (jv 1) jo_none (jo_some je_int))) (ja_cons (je_slice (jv 1) (jo_some je_int) jo_none) (ja_cons (je_rev (jv 1)) (ja_cons je_non ja_nil))))))) (je_callK 0 (ok_law_pick.mono (by omega)) hr (by rfl) (ja_cons je_int ja_nil)) (fun _ _ => rfl))))) jss_nil)
    (jss_cons (js_if (jt_val (je_isi (T := "int") (by rfl) T.b_isinstance (jv 1) (by rfl) T.b_int (by decide +kernel))) (jss_one (js_ret (je_ix (je_new (jn_lst (ja_cons (je_bin od_add (jv 1) je_int) (ja_cons (je_bin od_sub (jv 1) je_int) (ja_cons je_bl (ja_cons je_non (ja_cons je_int (ja_cons (je_bin od_add (je_bin od_pow je_int je_int) je_int) (ja_cons (je_strI (by rfl) T.b_str (jv 1)) ja_nil))))))))) (je_callK 0 (ok_law_pick.mono (by omega)) hr (by rfl) (ja_cons je_int ja_nil)) (fun _ _ => rfl)))) jss_nil)
    (jss_one (js_ret (je_ix (je_new (jn_lst (ja_cons je_non (ja_cons je_int (ja_cons je_str (ja_cons je_str (ja_cons je_str (ja_cons je_str (ja_cons je_str (ja_cons je_str ja_nil)))))))))) (je_callK 0 (ok_law_pick.mono (by omega)) hr (by rfl) (ja_cons je_int ja_nil)) (fun _ _ => rfl))))))))
theorem okn_law_spoilt (T : Top w K mg) (ok_law_pick : DefOk P w K mg base 1 "_law_pick" (spK (fg K P w tq) 2 f_law_pick)) : ∀ n, DefOk P w K mg base (1 + n) "_law_spoilt" (spK (fg K P w tq) 2 (f_law_spoilt n))
  | 0 => def_noneK T.d_law_spoilt (ps := ["deck", "thing"]) (fun _ _ _ _ _ _ us hl => match us, hl with | [_, _], _ => rfl)
  | n + 1 => okr_law_spoilt T ok_law_pick (Nat.le_add_right _ _) (okn_law_spoilt T ok_law_pick n)
theorem ok_law_spoilt (T : Top w K mg) (ok_law_pick : DefOk P w K mg base 1 "_law_pick" (spK (fg K P w tq) 2 f_law_pick)) : DefOk P w K mg base 21 "_law_spoilt" (spK (fg K P w tq) 2 (f_law_spoilt 20)) := okn_law_spoilt T ok_law_pick 20
theorem sc_law : FnScope ["script", "cell_", "deck", "houses", "some", "every", "one", "things_here", "k", "thing", "good", "bent", "due", "told", "odd", "other", "pair"] ["script"] (defScope (topS 33)) := ⟨rfl, rfl, rfl, by decide +kernel, rfl, by decide +kernel, by decide +kernel⟩
theorem okF_law (T : Top w K mg) (ok_law_deck : DefOk P w K mg base 1 "_law_deck" (spP (fg K P w tq) 2 f_law_deck)) (ok_law_columns_of : DefOk P w K mg base 1 "_law_columns_of" (spP (fg K P w tq) 1 f_law_columns_of)) (ok_law_hung : DefOk P w K mg base 1 "_law_hung" (spP (fg K P w tq) 2 f_law_hung)) (ok_law_odd_ones : DefOk P w K mg base 1 "_law_odd_ones" (spP (fg K P w tq) 1 f_law_odd_ones)) (ok_kinds : DefOk P w K mg base 2 "kinds" (spP (fg K P w tq) 2 f_kinds)) (ok_odd_kinds : DefOk P w K mg base 2 "odd_kinds" (spP (fg K P w tq) 2 f_odd_kinds)) (ok_law_are_likes : DefOk P w K mg base 2 "_law_are_likes" (spP (fg K P w tq) 2 f_law_are_likes)) (ok_law_odd : DefOk P w K mg base 3 "_law_odd" (spK (fg K P w tq) 1 f_law_odd)) (ok_law_houses : DefOk P w K mg base 4 "_law_houses" (spK (fg K P w tq) 3 f_law_houses)) (ok_law_likes : DefOk P w K mg base 4 "_law_likes" (spK (fg K P w tq) 3 f_law_likes)) (ok_are_likes : DefOk P w K mg base 5 "are_likes" (spP (fg K P w tq) 2 f_are_likes)) (ok_law_same : DefOk P w K mg base 21 "_law_same" (spP (fg K P w tq) 2 (f_law_same 20))) (ok_law_spoilt : DefOk P w K mg base 21 "_law_spoilt" (spK (fg K P w tq) 2 (f_law_spoilt 20))) {f : Addr} {fd : FuncData} (F : Fun K "law" "law" (topS 33) f fd) : FnOk P w K mg base CX0 22 f fd ["script"] (spP (fg K P w tq) 1 f_law) :=
  fn_pure (K := fg K P w tq) F sc_law (by decide) fun cdv A outer s H E hr => (by unfold M_law; exact (jss_cons (js_for PassesOwn.never rfl (ji_any (je_slice (je_bin od_add (je_new (jn_lst (ja_cons je_int ja_nil))) (jv 0)) jo_none (jo_some je_int))) (jg_name (i := 1) sc_law.nd rfl (.inl rfl)) (jss_cons (js_setOwn (i := 2) sc_law.nd rfl (.inl rfl) (jn_call (ok_law_deck.mono (by decide)) hr (by rfl) (ja_cons (jv 1) (ja_cons je_int ja_nil))))
    (jss_cons (js_set (i := 3) sc_law.nd rfl (.inl rfl) (je_callK 2 (ok_law_houses.mono (by decide)) hr (by rfl) (ja_cons je_int (ja_cons je_int ja_nil))))
    (jss_cons (js_set (i := 4) sc_law.nd rfl (.inl rfl) (je_call (ok_law_columns_of.mono (by decide)) hr (by rfl) (ja_cons (jv 3) ja_nil)))
    (jss_cons (js_set (i := 5) sc_law.nd rfl (.inl rfl) (je_new (jn_lst ja_nil)))
    (jss_cons (js_for PassesOwn.never rfl (ji_any (jv 4)) (jg_name (i := 6) sc_law.nd rfl (.inr rfl)) (jss_one (js_set (i := 5) sc_law.nd rfl (.inl rfl) (je_bin od_add (jv 5) (je_new (jn_lc (own := [("other", 15)]) rfl sc_law.nd (ji_any (jv 4)) (blkOk_by (N := ["script", "cell_", "deck", "houses", "some", "every", "one", "things_here", "k", "thing", "good", "bent", "due", "told", "odd", "other", "pair"]) (sc := defScope (topS 33)) (by decide +kernel)) (fun _ _ _ _ _ => (jg_name (i := 15) sc_law.nd rfl (.inl rfl))) (fun _ _ _ _ _ => (jts_one (jt_cmp od_lt (je_ix (jv 6) je_int (fun _ _ => rfl)) (je_ix (jv 15) je_int (fun _ _ => rfl)) (nomark _)))) (fun _ _ _ _ _ => (je_tup (ja_cons (jv 6) (ja_cons (jv 15) ja_nil))))))))))
    (jss_cons (js_set (i := 7) sc_law.nd rfl (.inl rfl) (je_new (jn_lst (ja_cons (je_tuple (by rfl) T.b_tuple (je_slice (jv 5) jo_none (jo_some je_int))) (ja_cons (je_tuple (by rfl) T.b_tuple (je_slice (jv 5) jo_none (jo_some je_int))) (ja_cons je_non (ja_cons (je_callK 2 (ok_law_odd.mono (by decide)) hr (by rfl) ja_nil) (ja_cons (je_tup ja_nil) (ja_cons (je_new (jn_lst (ja_cons (je_tup ja_nil) ja_nil))) ja_nil)))))))))
    (jss_cons (js_for PassesOwn.never rfl (ji_range1 (by rfl) T.b_range je_int) (jg_name (i := 8) sc_law.nd rfl (.inl rfl)) (jss_cons (js_set (i := 10) sc_law.nd rfl (.inl rfl) (je_callK 2 (ok_law_likes.mono (by decide)) hr (by rfl) (ja_cons (jv 3) (ja_cons (je_cmp (od_eq hr.units) (je_bin od_mod (jv 8) je_int) je_int (nomark _)) ja_nil))))
    (jss_cons (js_set (i := 11) sc_law.nd rfl (.inl rfl) (je_callK 2 (ok_law_spoilt.mono (by decide)) hr (by rfl) (ja_cons (jv 10) ja_nil)))
    (jss_cons (js_set (i := 7) sc_law.nd rfl (.inl rfl) (je_bin od_add (jv 7) (je_new (jn_lst (ja_cons (jv 10) (ja_cons (jv 11) (ja_cons (je_rev (jv 10)) (ja_cons (je_new (jn_list (by rfl) T.b_list (jv 10))) (ja_cons (je_tuple (by rfl) T.b_tuple (je_new (jn_lc (own := [("pair", 16)]) rfl sc_law.nd (ji_any (jv 10)) (blkOk_by (N := ["script", "cell_", "deck", "houses", "some", "every", "one", "things_here", "k", "thing", "good", "bent", "due", "told", "odd", "other", "pair"]) (sc := defScope (topS 33)) (by decide +kernel)) (fun _ _ _ _ _ => (jg_name (i := 16) sc_law.nd rfl (.inl rfl))) (fun _ _ _ _ _ => jts_nil) (fun _ _ _ _ _ => (je_rev (jv 16)))))) ja_nil)))))))))
    (jss_cons (js_set (i := 12) sc_law.nd rfl (.inl rfl) (je_call (ok_law_hung.mono (by decide)) hr (by rfl) (ja_cons (jv 4) (ja_cons (jv 10) ja_nil))))
    (jss_cons (js_parN (i := 13) (j := 14) rfl sc_law.nd rfl rfl (by decide) rfl rfl (jn_call (ok_kinds.mono (by decide)) hr (by rfl) (ja_cons (jv 3) (ja_cons (jv 10) ja_nil))) (jn_call (ok_odd_kinds.mono (by decide)) hr (by rfl) (ja_cons (jv 3) (ja_cons (jv 10) ja_nil))) (by rfl))
    (jss_cons (js_if (jt_not (jt_val (je_bor 13 14 (by decide) (pj_call (ok_law_same.mono (by decide)) hr (by rfl) (pj_cons (pj_lst (pj_cons (pj_var 13) (pj_cons (pj_var 14) pj_nil))) (pj_cons (pj_lst (pj_cons (pj_var 12) (pj_cons (pj_call (ok_law_odd_ones.mono (by decide)) hr (by rfl) (pj_cons (pj_var 12) pj_nil)) pj_nil))) pj_nil)))))) (jss_one (js_ret je_bl)) jss_nil)
    (jss_cons (js_expr (je_append 13 je_int))
    (jss_cons (js_expr (je_append 14 je_int))
    (jss_one (js_if (jt_cmp (od_ne hr.units) (je_call (ok_kinds.mono (by decide)) hr (by rfl) (ja_cons (jv 3) (ja_cons (jv 10) ja_nil))) (jv 12) (nomark _)) (jss_one (js_ret je_bl)) jss_nil)))))))))))
    (jss_one (js_for PassesOwn.never rfl (ji_any (jv 7)) (jg_name (i := 9) sc_law.nd rfl (.inl rfl)) (jss_one (js_if (jt_not (jt_val (je_call (ok_law_same.mono (by decide)) hr (by rfl) (ja_cons (je_call (ok_are_likes.mono (by decide)) hr (by rfl) (ja_cons (jv 3) (ja_cons (jv 9) ja_nil))) (ja_cons (je_call (ok_law_are_likes.mono (by decide)) hr (by rfl) (ja_cons (jv 3) (ja_cons (jv 9) ja_nil))) ja_nil))))) (jss_one (js_ret je_bl)) jss_nil))))))))))))
    (jss_one (js_ret je_bl))))
theorem law_ok (T : Top w K mg) {f : Addr} {fd : FuncData} (F : Fun K "law" "law" (topS 33) f fd) : FnOk P w K mg base CX0 22 f fd ["script"] (spP (fg K P w tq) 1 f_law) := by
  have h_is_tuple := ok_is_tuple (P := P) (w := w) (base := base) (tq := tq) T
  have h_is_pair := ok_is_pair (P := P) (w := w) (base := base) (tq := tq) T
  have h_rises := ok_rises (P := P) (w := w) (base := base) (tq := tq) T
  have h_linked := ok_linked (P := P) (w := w) (base := base) (tq := tq) T
  have h_all_groups := ok_all_groups (P := P) (w := w) (base := base) (tq := tq) T
  have h_is_odd := ok_is_odd (P := P) (w := w) (base := base) (tq := tq) T
  have h_columns_of := ok_columns_of (P := P) (w := w) (base := base) (tq := tq) T
  have h_law_deck := ok_law_deck (P := P) (w := w) (base := base) (tq := tq) T
  have h_law_pick := ok_law_pick (P := P) (w := w) (base := base) (tq := tq) T
  have h_law_sort := ok_law_sort (P := P) (w := w) (base := base) (tq := tq) T
  have h_law_columns_of := ok_law_columns_of (P := P) (w := w) (base := base) (tq := tq) T
  have h_law_hung := ok_law_hung (P := P) (w := w) (base := base) (tq := tq) T
  have h_law_odd_ones := ok_law_odd_ones (P := P) (w := w) (base := base) (tq := tq) T
  have h_law_calls := ok_law_calls (P := P) (w := w) (base := base) (tq := tq) T
  have h_calls_column := ok_calls_column (P := P) (w := w) (base := base) (tq := tq) T h_is_pair
  have h_kinds := ok_kinds (P := P) (w := w) (base := base) (tq := tq) T h_linked h_all_groups h_columns_of
  have h_odd_kinds := ok_odd_kinds (P := P) (w := w) (base := base) (tq := tq) T h_linked h_is_odd
  have h_law_one := ok_law_one (P := P) (w := w) (base := base) (tq := tq) T h_law_pick
  have h_law_are_likes := ok_law_are_likes (P := P) (w := w) (base := base) (tq := tq) T h_law_columns_of h_law_calls
  have h_law_odd := ok_law_odd (P := P) (w := w) (base := base) (tq := tq) T h_law_one
  have h_law_worth := ok_law_worth (P := P) (w := w) (base := base) (tq := tq) T h_law_pick h_law_one
  have h_law_pairs := ok_law_pairs (P := P) (w := w) (base := base) (tq := tq) T h_law_pick h_law_one
  have h_is_link__calls_column := ok_is_link__calls_column (P := P) (w := w) (base := base) (tq := tq) T h_is_pair h_calls_column
  have h_law_houses := ok_law_houses (P := P) (w := w) (base := base) (tq := tq) T h_law_pick h_law_worth
  have h_law_likes := ok_law_likes (P := P) (w := w) (base := base) (tq := tq) T h_law_pick h_law_columns_of h_law_pairs
  have h_are_links__calls_column := ok_are_links__calls_column (P := P) (w := w) (base := base) (tq := tq) T h_is_tuple h_rises h_is_link__calls_column
  have h_are_likes := ok_are_likes (P := P) (w := w) (base := base) (tq := tq) T h_are_links__calls_column
  have h_law_same := ok_law_same (P := P) (w := w) (base := base) (tq := tq) T h_law_sort
  have h_law_spoilt := ok_law_spoilt (P := P) (w := w) (base := base) (tq := tq) T h_law_pick
  exact okF_law T h_law_deck h_law_columns_of h_law_hung h_law_odd_ones h_kinds h_odd_kinds h_law_are_likes h_law_odd h_law_houses h_law_likes h_are_likes h_law_same h_law_spoilt F
end
end PB

set_option maxHeartbeats 4000000
namespace PB
open PySem PySem.Spec PyProof.Rows L2
theorem def_mk {K : PySem.W.Frag} {mg : Str → Option Value} {h : Heap} {x : Str} {st : Stmt} {f : Addr} {oc : Value} {od an : Option Addr} {osl : Array (Option Value)} {kV doc pm cdv ct : Value} (X : K.In h) (G : h.Ns mainGlobals mg)
    (a : PySem.W.nsIn K mainGlobals x = some (some (.ref f))) (l : K.lookup f = some ⟨oc, od, .func (PySem.W.fnOf x x (defArgs st) (defBody st) (defScope st) .none kV doc pm an cdv ct), osl⟩)
    (c : PySem.W.codeIn K cdv x = true) (k : PySem.W.keepIn K (.ref f) = true) : DefAt K mg x st := ⟨⟨f, _, fun_mk l c k, PySem.W.mg_of X G a⟩⟩
theorem int_mk {K : PySem.W.Frag} {mg : Str → Option Value} {h : Heap} {x : Str} {i : Int} {t : Tok} (X : K.In h) (G : h.Ns mainGlobals mg) (a : PySem.W.nsIn K mainGlobals x = some (some (.int i t))) : IntAt mg x i := ⟨⟨t, PySem.W.mg_of X G a⟩⟩
def spLaw (K : PySem.W.Frag) : Sp := fun vs H Q _ => ∃ (a : Addr) (ns : List Int), vs = [.ref a] ∧ SqL K H a (ns.map V.int) ∧ ns.length ≤ 63 ∧ ∀ H', Q (.bl true) H'
theorem dpa_ints {K : PB.Frag} {H : Hp} : ∀ ns : List Int, DpAll K H (ns.map V.int) (ns.map PyData.int)
  | [] => .nil
  | n :: r => .cons (.int n) (dpa_ints r)
theorem seq_cut {K : PySem.W.Frag} {H : Hp} {a : Addr} {xs : List V} (h : SqL K H a xs) : SqL K (cut H (fun _ => False)) a xs := by
  rcases h with (h | ⟨o, h⟩) | h
  · exact .inl (.inl (cut_of (fun z => z) h))
  · exact .inl (.inr ⟨o, cut_of (fun z => z) h⟩)
  · exact .inr h
theorem end_mk {l : PySem.W.OpenLaw} {w : World} {K : PySem.W.Frag} {h : Heap} {mg : Str → Option Value} {fa : Addr} (X : K.In h) (G : h.Ns mainGlobals mg) (hfa : mg "law" = some (.ref fa)) (T : Top w K mg) :
    ∃ fd : FuncData, (∀ (s : Shared) (v : Value), BindsTo s fd ⟨[v], []⟩ [("script", v)]) ∧ ∀ base : Heap, K.In base → base.Ns mainGlobals mg → FnOk l.prog w K mg base CX0 60 fa fd ["script"] (spLaw K) := by
  obtain ⟨f, fd, F, g⟩ := T.d_law.ex
  have e := hfa.symm.trans g
  cases e
  have F' := F
  obtain ⟨oc, od, kV, doc, pm, an, cdv, ct, osl, rfl, lk, hcd⟩ := F'.ex
  refine ⟨_, fun s v => .of_eq rfl, fun base _ _ => ((law_ok (tq := []) T F).mono (by decide)).imp fun vs H Q E hsp => ?_⟩
  obtain ⟨a, ns, rfl, hS, hl, q⟩ := hsp
  refine ⟨fun _ => False, [.list (ns.map .int)], _, fun _ z => z.elim, .cons (.lst (seq_cut hS) (dpa_ints ns)) .nil, rfl, law_true ns hl, (fun p hp => absurd hp List.not_mem_nil), fun v H' _ _ rr => ?_⟩
  have ev : v = .bl true := dp_bool rr
  rw [ev]
  exact q H'
end PB
open PySem PySem.W PyProof.Rows
set_option maxRecDepth 100000 in
set_option maxHeartbeats 0 in
theorem PySem.Challenge.cw_poolbook_k02_likes_and_kinds_holds : PySem.Challenge.rw_poolbook_k02_likes_and_kinds.Holds := by
  w_on; o_law; k_head; (case hw => w_witness2)
  k_fill
  refine L2.walk_of (l := PySem.Challenge.rw_poolbook_k02_likes_and_kinds) (n := 63) (k := 60) (x := "script") (CX := fun _ => L2.CX0) (sp := fun w => PB.spLaw _) rfl (by decide) rfl ⟨rfl, by decide, by decide⟩ (fun w h Y => PySem.W.kIn_of Y) ?F (fun _ _ a ns hl _ hS => ⟨a, ns, rfl, hS, hl, fun _ => rfl⟩) (fun _ _ _ _ _ h => h)
  case F =>
    intro w mg fa h KX G hmg
    refine PB.end_mk KX G hmg ?T
    constructor
    · refine' PB.fnat_mk KX G ?a; (case a => k_is)
    · refine' PB.def_mk KX G ?a ?l ?c ?k; (case a => k_is); (case l => k_is); (case c => k_is); (case k => k_is)
    · refine' PB.def_mk KX G ?a ?l ?c ?k; (case a => k_is); (case l => k_is); (case c => k_is); (case k => k_is)
    · refine' PB.def_mk KX G ?a ?l ?c ?k; (case a => k_is); (case l => k_is); (case c => k_is); (case k => k_is)
    · refine' PB.def_mk KX G ?a ?l ?c ?k; (case a => k_is); (case l => k_is); (case c => k_is); (case k => k_is)
    · refine' PB.def_mk KX G ?a ?l ?c ?k; (case a => k_is); (case l => k_is); (case c => k_is); (case k => k_is)
    · refine' PB.def_mk KX G ?a ?l ?c ?k; (case a => k_is); (case l => k_is); (case c => k_is); (case k => k_is)
    · refine' PB.def_mk KX G ?a ?l ?c ?k; (case a => k_is); (case l => k_is); (case c => k_is); (case k => k_is)
    · refine' PB.def_mk KX G ?a ?l ?c ?k; (case a => k_is); (case l => k_is); (case c => k_is); (case k => k_is)
    · refine' PB.def_mk KX G ?a ?l ?c ?k; (case a => k_is); (case l => k_is); (case c => k_is); (case k => k_is)
    · refine' PB.def_mk KX G ?a ?l ?c ?k; (case a => k_is); (case l => k_is); (case c => k_is); (case k => k_is)
    · refine' PB.def_mk KX G ?a ?l ?c ?k; (case a => k_is); (case l => k_is); (case c => k_is); (case k => k_is)
    · refine' PB.def_mk KX G ?a ?l ?c ?k; (case a => k_is); (case l => k_is); (case c => k_is); (case k => k_is)
    · refine' PB.def_mk KX G ?a ?l ?c ?k; (case a => k_is); (case l => k_is); (case c => k_is); (case k => k_is)
    · refine' PB.def_mk KX G ?a ?l ?c ?k; (case a => k_is); (case l => k_is); (case c => k_is); (case k => k_is)
    · refine' PB.def_mk KX G ?a ?l ?c ?k; (case a => k_is); (case l => k_is); (case c => k_is); (case k => k_is)
    · refine' PB.def_mk KX G ?a ?l ?c ?k; (case a => k_is); (case l => k_is); (case c => k_is); (case k => k_is)
    · refine' PB.def_mk KX G ?a ?l ?c ?k; (case a => k_is); (case l => k_is); (case c => k_is); (case k => k_is)
    · refine' PB.def_mk KX G ?a ?l ?c ?k; (case a => k_is); (case l => k_is); (case c => k_is); (case k => k_is)
    · refine' PB.def_mk KX G ?a ?l ?c ?k; (case a => k_is); (case l => k_is); (case c => k_is); (case k => k_is)
    · refine' PB.def_mk KX G ?a ?l ?c ?k; (case a => k_is); (case l => k_is); (case c => k_is); (case k => k_is)
    · refine' PB.def_mk KX G ?a ?l ?c ?k; (case a => k_is); (case l => k_is); (case c => k_is); (case k => k_is)
    · refine' PB.def_mk KX G ?a ?l ?c ?k; (case a => k_is); (case l => k_is); (case c => k_is); (case k => k_is)
    · refine' PB.def_mk KX G ?a ?l ?c ?k; (case a => k_is); (case l => k_is); (case c => k_is); (case k => k_is)
    · refine' PB.def_mk KX G ?a ?l ?c ?k; (case a => k_is); (case l => k_is); (case c => k_is); (case k => k_is)
    · refine' PB.def_mk KX G ?a ?l ?c ?k; (case a => k_is); (case l => k_is); (case c => k_is); (case k => k_is)
    · refine' PB.def_mk KX G ?a ?l ?c ?k; (case a => k_is); (case l => k_is); (case c => k_is); (case k => k_is)
    · refine' PB.def_mk KX G ?a ?l ?c ?k; (case a => k_is); (case l => k_is); (case c => k_is); (case k => k_is)
    · refine' PB.def_mk KX G ?a ?l ?c ?k; (case a => k_is); (case l => k_is); (case c => k_is); (case k => k_is)
    · refine' PB.def_mk KX G ?a ?l ?c ?k; (case a => k_is); (case l => k_is); (case c => k_is); (case k => k_is)
    · refine' PB.def_mk KX G ?a ?l ?c ?k; (case a => k_is); (case l => k_is); (case c => k_is); (case k => k_is)
    · refine' PB.int_mk KX G ?a; (case a => k_is)
    · exact PySem.W.mg_none_of KX G (by k_is)
    · exact PySem.W.mg_none_of KX G (by k_is)
    · exact PySem.W.mg_none_of KX G (by k_is)
    · exact PySem.W.mg_none_of KX G (by k_is)
    · exact PySem.W.mg_none_of KX G (by k_is)
    · exact PySem.W.mg_none_of KX G (by k_is)
    · exact PySem.W.mg_none_of KX G (by k_is)
    · exact PySem.W.mg_none_of KX G (by k_is)
    · exact PySem.W.mg_none_of KX G (by k_is)
    · exact PySem.W.mg_none_of KX G (by k_is)
    · exact PySem.W.mg_none_of KX G (by k_is)
    · exact PySem.W.mg_none_of KX G (by k_is)
    · exact PySem.W.mg_none_of KX G (by k_is)
    · exact PySem.W.mg_none_of KX G (by k_is)
