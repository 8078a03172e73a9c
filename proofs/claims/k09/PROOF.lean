import PyProof.Rows.All
import Wide.All
import OpenK.AllK
import Wide.FinOn
import HandS.Base
import HandS.Call
import HandS.List
import HandS.Comp
import HandS.Words
import HandS.Iter
import HandS.Zip
import HandS.Conv
import HandS.RevRange
import HandS.ForMost
import HandS.TupAny
import HandS.IsInst
import HandS.FStr
import PyProof.ReprRoads
import HandS.More
import HandS.Dict
import HandS.Wide
import HandS.TupMul
import PyProof.ReprLen
import PyProof.StrLawsRepr
import HandS.Ends
import HandS.EndBits
import KE.GoesMore
import KE.GoesEnum
import PySem.Challenge.RW_mumhouse_k09_texts_written
set_option Elab.async false
set_option linter.all false
set_option maxRecDepth 100000

namespace DL
open PySem PySem.Spec PyProof.Rows L2


def Sub (D H : Hp) : Prop := ∀ a o, D a = some o → H a = some o
theorem rd_mono {D D' : Hp} (s : Same D D') {a : Addr} {u : HO} (h : Rd D a u) : Rd D' a u := by
  rcases h with h | ⟨o, h⟩
  · exact .inl (s _ _ h)
  · exact .inr ⟨o, s _ _ h⟩
def SqX (K : PySem.W.Frag) (H : Hp) (a : Addr) (xs : List V) : Prop :=
  Rd H a (.lst xs) ∨ ∃ (its : List Value) (n : Nat), K.lookup a = some { cls := .type "list", data := .seq its.toArray n } ∧ xs.length ≤ sizeLine ∧ Vals xs its
theorem SqX.of {K : PySem.W.Frag} {H : Hp} {a : Addr} {xs : List V} (h : H a = some (.lst xs)) : SqX K H a xs := .inl (.inl h)
theorem SqX.l {K : PySem.W.Frag} {H : Hp} {a : Addr} {xs : List V} (h : SqX K H a xs) : SqL K H a xs := by
  rcases h with h | ⟨its, n, k, z, v⟩
  · exact .inl h
  · exact .inr ⟨_, its.toArray, n, k, rfl, rfl, rfl, by rw [List.size_toArray, ← v.length]; exact z, by simpa using v⟩
theorem sqX_mono {K : PySem.W.Frag} {D D' : Hp} (s : Same D D') {a : Addr} {xs : List V} (h : SqX K D a xs) : SqX K D' a xs := by
  rcases h with h | h
  · exact .inl (rd_mono s h)
  · exact .inr h
theorem sqL_mono {K : PySem.W.Frag} {D D' : Hp} (s : Same D D') {a : Addr} {xs : List V} (h : SqX K D a xs) : SqL K D' a xs := (sqX_mono s h).l
theorem sqT_mono {K : PySem.W.Frag} {D D' : Hp} (s : Same D D') {a : Addr} {xs : List V} (h : SqT K D a xs) : SqT K D' a xs := by
  rcases h with h | h
  · exact .inl (rd_mono s h)
  · exact .inr h
mutual
inductive Dp (K : PySem.W.Frag) (H : Hp) : V → PyData → Prop -- k09
  | non : Dp K H V.non PyData.none
  | bl (b : Bool) : Dp K H (V.bl b) (PyData.bool b)
  | int (i : Int) : Dp K H (V.int i) (PyData.int i)
  | str (x : Str) : Dp K H (V.str x) (PyData.str x)
  | lst {a : Addr} {xs : List V} {ds : List PyData} (s : SqX K H a xs) (al : DpAll K H xs ds) : Dp K H (V.ref a) (PyData.list ds)
  | tup {a : Addr} {xs : List V} {ds : List PyData} (s : SqT K H a xs) (al : DpAll K H xs ds) : Dp K H (V.ref a) (PyData.tuple ds)
inductive DpAll (K : PySem.W.Frag) (H : Hp) : List V → List PyData → Prop -- k09
  | nil : DpAll K H [] []
  | cons {v : V} {vs : List V} {d : PyData} {ds : List PyData} (a : Dp K H v d) (b : DpAll K H vs ds) : DpAll K H (v :: vs) (d :: ds)
end
mutual
theorem dp_l2 {K : PySem.W.Frag} {H : Hp} : ∀ {d : PyData} {v : V}, Dp K H v d → L2.Dp K H v d
  | .none, _, h => by cases h; exact .non
  | .bool _, _, h => by cases h; exact .bl _
  | .int _, _, h => by cases h; exact .int _
  | .str _, _, h => by cases h; exact .str _
  | .list ds, _, h => by
    cases h with
    | lst q a => exact .lst q.l (dpAll_l2 a)
  | .tuple ds, _, h => by
    cases h with
    | tup q a => exact .tup q (dpAll_l2 a)
  | .dict _, _, h => by cases h
theorem dpAll_l2 {K : PySem.W.Frag} {H : Hp} : ∀ {ds : List PyData} {vs : List V}, DpAll K H vs ds → L2.DpAll K H vs ds
  | [], _, h => by cases h; exact .nil
  | _ :: _, _, h => by
    cases h with
    | cons a b => exact .cons (dp_l2 a) (dpAll_l2 b)
end
mutual
theorem dp_mono {K : PySem.W.Frag} {D D' : Hp} (s : Same D D') : ∀ {d : PyData} {v : V}, Dp K D v d → Dp K D' v d
  | .none, _, h => by cases h; exact .non
  | .bool _, _, h => by cases h; exact .bl _
  | .int _, _, h => by cases h; exact .int _
  | .str _, _, h => by cases h; exact .str _
  | .list ds, _, h => by
    cases h with
    | lst q a => exact .lst (sqX_mono s q) (dpAll_mono s a)
  | .tuple ds, _, h => by
    cases h with
    | tup q a => exact .tup (sqT_mono s q) (dpAll_mono s a)
  | .dict _, _, h => by cases h
theorem dpAll_mono {K : PySem.W.Frag} {D D' : Hp} (s : Same D D') : ∀ {ds : List PyData} {vs : List V}, DpAll K D vs ds → DpAll K D' vs ds
  | [], _, h => by cases h; exact .nil
  | _ :: _, _, h => by
    cases h with
    | cons a b => exact .cons (dp_mono s a) (dpAll_mono s b)
end
theorem dpAll_len {K : PySem.W.Frag} {D : Hp} : ∀ {ds : List PyData} {vs : List V}, DpAll K D vs ds → vs.length = ds.length
  | [], _, h => by cases h; rfl
  | _ :: _, _, h => by
    cases h with
    | cons a b => simp [dpAll_len b]
theorem dpAll_get {K : PySem.W.Frag} {D : Hp} : ∀ {ds : List PyData} {vs : List V} {i : Nat} {d : PyData}, DpAll K D vs ds → ds[i]? = some d → ∃ v, vs[i]? = some v ∧ Dp K D v d
  | [], _, _, _, _, e => by simp at e
  | _ :: _, _, 0, _, h, e => by
    cases h with
    | cons a b =>
      simp at e
      subst e
      exact ⟨_, rfl, a⟩
  | _ :: _, _, i + 1, _, h, e => by
    cases h with
    | cons a b =>
      obtain ⟨v, h1, h2⟩ := dpAll_get b (i := i) (by simpa using e)
      exact ⟨v, by simpa using h1, h2⟩
theorem dpAll_getV {K : PySem.W.Frag} {D : Hp} : ∀ {ds : List PyData} {vs : List V} {i : Nat} {v : V}, DpAll K D vs ds → vs[i]? = some v → ∃ d, ds[i]? = some d ∧ Dp K D v d
  | [], _, _, _, h, e => by cases h; simp at e
  | _ :: _, _, 0, _, h, e => by
    cases h with
    | cons a b =>
      simp at e
      subst e
      exact ⟨_, rfl, a⟩
  | _ :: _, _, i + 1, _, h, e => by
    cases h with
    | cons a b =>
      obtain ⟨v, h1, h2⟩ := dpAll_getV b (i := i) (by simpa using e)
      exact ⟨v, by simpa using h1, h2⟩
theorem dpAll_app {K : PySem.W.Frag} {D : Hp} : ∀ {ds es : List PyData} {vs us : List V}, DpAll K D vs ds → DpAll K D us es → DpAll K D (vs ++ us) (ds ++ es)
  | [], _, _, _, h, k => by cases h; exact k
  | _ :: _, _, _, _, h, k => by
    cases h with
    | cons a b => exact .cons a (dpAll_app b k)
theorem dpAll_set {K : PySem.W.Frag} {D : Hp} : ∀ {ds : List PyData} {vs : List V} {i : Nat} {d : PyData} {v : V}, DpAll K D vs ds → Dp K D v d → DpAll K D (vs.set i v) (ds.set i d)
  | [], _, _, _, _, h, _ => by cases h; exact .nil
  | _ :: _, _, 0, _, _, h, k => by
    cases h with
    | cons a b => exact .cons k b
  | _ :: _, _, i + 1, _, _, h, k => by
    cases h with
    | cons a b => exact .cons a (dpAll_set b k)
theorem dpAll_take {K : PySem.W.Frag} {D : Hp} : ∀ {ds : List PyData} {vs : List V} (n : Nat), DpAll K D vs ds → DpAll K D (vs.take n) (ds.take n)
  | _, _, 0, _ => .nil
  | [], _, _ + 1, h => by cases h; exact .nil
  | _ :: _, _, n + 1, h => by
    cases h with
    | cons a b => exact .cons a (dpAll_take n b)
theorem dpAll_drop {K : PySem.W.Frag} {D : Hp} : ∀ {ds : List PyData} {vs : List V} (n : Nat), DpAll K D vs ds → DpAll K D (vs.drop n) (ds.drop n)
  | _, _, 0, h => h
  | [], _, _ + 1, h => by cases h; exact .nil
  | _ :: _, _, n + 1, h => by
    cases h with
    | cons a b => exact dpAll_drop n b
theorem dpAll_dropLast {K : PySem.W.Frag} {D : Hp} {ds : List PyData} {vs : List V} (h : DpAll K D vs ds) : DpAll K D vs.dropLast ds.dropLast := by
  rw [List.dropLast_eq_take, List.dropLast_eq_take, dpAll_len h]
  exact dpAll_take _ h
theorem dpAll_rev {K : PySem.W.Frag} {D : Hp} : ∀ {ds : List PyData} {vs : List V}, DpAll K D vs ds → DpAll K D vs.reverse ds.reverse
  | [], _, h => by cases h; exact .nil
  | _ :: _, _, h => by
    cases h with
    | cons a b =>
      rw [List.reverse_cons, List.reverse_cons] -- k09
      exact dpAll_app (dpAll_rev b) (.cons a .nil)
theorem dpAll_ints {K : PySem.W.Frag} {D : Hp} : ∀ (ns : List Int), DpAll K D (ns.map V.int) (ns.map PyData.int)
  | [] => .nil
  | _ :: r => .cons (.int _) (dpAll_ints r)
theorem dpAll_bls {K : PySem.W.Frag} {D : Hp} : ∀ (ns : List Bool), DpAll K D (ns.map V.bl) (ns.map PyData.bool)
  | [] => .nil
  | _ :: r => .cons (.bl _) (dpAll_bls r)
theorem dpAll_strs {K : PySem.W.Frag} {D : Hp} : ∀ (ns : List Str), DpAll K D (ns.map V.str) (ns.map PyData.str)
  | [] => .nil
  | _ :: r => .cons (.str _) (dpAll_strs r)
theorem dpAll_intsV {K : PySem.W.Frag} {D : Hp} : ∀ {ns : List Int} {vs : List V}, DpAll K D vs (ns.map PyData.int) → vs = ns.map V.int
  | [], _, h => by cases h; rfl
  | _ :: _, _, h => by
    cases h with
    | cons a b => cases a; rw [dpAll_intsV b]; rfl
theorem dpAll_blsV {K : PySem.W.Frag} {D : Hp} : ∀ {ns : List Bool} {vs : List V}, DpAll K D vs (ns.map PyData.bool) → vs = ns.map V.bl
  | [], _, h => by cases h; rfl
  | _ :: _, _, h => by
    cases h with
    | cons a b => cases a; rw [dpAll_blsV b]; rfl
theorem dpAll_strsV {K : PySem.W.Frag} {D : Hp} : ∀ {ns : List Str} {vs : List V}, DpAll K D vs (ns.map PyData.str) → vs = ns.map V.str
  | [], _, h => by cases h; rfl
  | _ :: _, _, h => by
    cases h with
    | cons a b => cases a; rw [dpAll_strsV b]; rfl


inductive Ent where
  | dat (d : PyData) | own (ds : List PyData) | arg (ds : List PyData)
abbrev DEnv := List (Option Ent)
structure Root where
  H0 : Hp
  D0 : Hp
  A0 : Option Addr
structure Grow (D H D' H' : Hp) : Prop where
  h : Same H H'
  d : Same D D'
  sub : Sub D' H'
  new : ∀ a o, D' a = some o → D a = some o ∨ H a = none
theorem Grow.refl {D H : Hp} (s : Sub D H) : Grow D H D H := ⟨Same.refl _, Same.refl _, s, fun _ _ h => .inl h⟩
theorem Grow.trans {D H D1 H1 D2 H2 : Hp} (a : Grow D H D1 H1) (b : Grow D1 H1 D2 H2) : Grow D H D2 H2 :=
  ⟨a.h.trans b.h, a.d.trans b.d, b.sub, fun x o h => by
    rcases b.new x o h with h1 | h1
    · exact a.new x o h1
    · exact .inr (a.h.free h1)⟩
theorem Grow.upd {D H : Hp} {p : Addr} {o : HO} (s : Sub D H) (hp : H p = none) : Grow D H (upd D p o) (upd H p o) := by
  have hD : D p = none := by
    cases q : D p with
    | none => rfl
    | some u => rw [s p u q] at hp; cases hp
  refine ⟨fun b u e => by rw [upd_ne (ne_of_none e hp)]; exact e, fun b u e => by rw [upd_ne (ne_of_none e hD)]; exact e, fun b u e => ?_, fun b u e => ?_⟩
  · by_cases hb : b = p
    · subst hb; rw [upd_same] at e ⊢; exact e
    · rw [upd_ne hb] at e ⊢; exact s b u e
  · by_cases hb : b = p
    · subst hb; exact .inr hp
    · rw [upd_ne hb] at e; exact .inl e
theorem Grow.tmp {D H : Hp} {p : Addr} {o : HO} (s : Sub D H) (hp : H p = none) : Grow D H D (L2.upd H p o) := by
  refine ⟨fun b u e => by rw [upd_ne (ne_of_none e hp)]; exact e, Same.refl _, fun b u e => ?_, fun b u e => .inl e⟩
  have := s b u e
  rw [upd_ne (ne_of_none this hp)]; exact this
structure Rep (K : PySem.W.Frag) (R : Root) (σ : L2.St) (H : Hp) (Γ : DEnv) (D : Hp) : Prop where
  sub : Sub D H
  ext : Same R.D0 D
  new : ∀ a o, D a = some o → R.D0 a = some o ∨ R.H0 a = none
  kept : ∀ a o, R.H0 a = some o → R.A0 ≠ some a → H a = some o
  len : σ.length = Γ.length
  dat : ∀ (i : Nat) (d : PyData), Γ[i]? = some (some (Ent.dat d)) → ∃ v, σ[i]? = some (some v) ∧ Dp K D v d
  own : ∀ (i : Nat) (ds : List PyData), Γ[i]? = some (some (Ent.own ds)) → ∃ a xs, σ[i]? = some (some (V.ref a)) ∧ H a = some (.lst xs) ∧ D a = none ∧ DpAll K D xs ds ∧ R.H0 a = none
  arg : ∀ (i : Nat) (ds : List PyData), Γ[i]? = some (some (Ent.arg ds)) → ∃ a xs, R.A0 = some a ∧ σ[i]? = some (some (V.ref a)) ∧ H a = some (.lst xs) ∧ D a = none ∧ DpAll K D xs ds
  a0 : ∀ a, R.A0 = some a → ∃ ds, Γ[0]? = some (some (Ent.arg ds)) ∧ ∀ (i : Nat) (ds' : List PyData), Γ[i]? = some (some (Ent.arg ds')) → i = 0
  apart : ∀ (i j : Nat) (ds es : List PyData) (a : Addr), Γ[i]? = some (some (Ent.own ds)) → Γ[j]? = some (some (Ent.own es)) → σ[i]? = some (some (V.ref a)) → σ[j]? = some (some (V.ref a)) → i = j
  args : ∀ a, R.A0 = some a → ∃ o, R.H0 a = some o
def Mine (σ : L2.St) (Γ : DEnv) (a : Addr) : Prop := ∃ i : Nat, σ[i]? = some (some (V.ref a)) ∧ ((∃ ds, Γ[i]? = some (some (Ent.own ds))) ∨ ∃ ds, Γ[i]? = some (some (Ent.arg ds)))
structure Step (σ : L2.St) (Γ : DEnv) (D H : Hp) (Γ' : DEnv) (D' H' : Hp) : Prop where
  d : Same D D'
  keep : ∀ a o, H a = some o → ¬ Mine σ Γ a → H' a = some o
  mine : ∀ a, Mine σ Γ' a → Mine σ Γ a
  new : ∀ a o, D' a = some o → D a = some o ∨ H a = none ∨ Mine σ Γ a
  there : ∀ a o, H a = some o → ∃ o', H' a = some o'
theorem Step.refl {σ : L2.St} {Γ : DEnv} {D H : Hp} : Step σ Γ D H Γ D H := ⟨Same.refl _, fun _ _ h _ => h, fun _ h => h, fun _ _ h => .inl h, fun _ o h => ⟨o, h⟩⟩
theorem Step.trans {σ : L2.St} {Γ Γ1 Γ2 : DEnv} {D H D1 H1 D2 H2 : Hp} (a : Step σ Γ D H Γ1 D1 H1) (b : Step σ Γ1 D1 H1 Γ2 D2 H2) : Step σ Γ D H Γ2 D2 H2 :=
  ⟨a.d.trans b.d, fun x o h n => b.keep x o (a.keep x o h n) fun z => n (a.mine x z), fun x h => a.mine x (b.mine x h), fun x o h => by
    rcases b.new x o h with h1 | h1 | h1
    · exact a.new x o h1
    · refine .inr (.inl ?_)
      cases q : H x with
      | none => rfl
      | some u =>
        obtain ⟨o', e⟩ := a.there x u q
        rw [e] at h1; cases h1
    · exact .inr (.inr (a.mine x h1)), fun x o h => by
    obtain ⟨o1, e1⟩ := a.there x o h
    exact b.there x o1 e1⟩
theorem Grow.step {σ : L2.St} {Γ : DEnv} {D H D' H' : Hp} (g : Grow D H D' H') : Step σ Γ D H Γ D' H' :=
  ⟨g.d, fun a o h _ => g.h a o h, fun _ h => h, fun a o h => (g.new a o h).elim .inl fun z => .inr (.inl z), fun a o h => ⟨o, g.h a o h⟩⟩
theorem Rep.grow {K : PySem.W.Frag} {R : Root} {σ : L2.St} {H H' D D' : Hp} {Γ : DEnv} (r : Rep K R σ H Γ D) (g : Grow D H D' H') : Rep K R σ H' Γ D' := by
  have nD : ∀ a o, H a = some o → D a = none → D' a = none := fun a o h n => by
    cases q : D' a with
    | none => rfl
    | some u =>
      rcases g.new a u q with z | z
      · rw [n] at z; cases z
      · rw [h] at z; cases z
  have hH : ∀ a, R.H0 a ≠ none → R.A0 ≠ some a → H a ≠ none := fun a h n z => by
    cases q : R.H0 a with
    | none => exact h q
    | some u => rw [r.kept a u q n] at z; cases z
  refine ⟨g.sub, r.ext.trans g.d, fun a o h => ?_, fun a o h n => g.h a o (r.kept a o h n), r.len, fun i d h => ?_, fun i ds h => ?_, fun i ds h => ?_, r.a0, r.apart, r.args⟩
  · rcases g.new a o h with z | z
    · exact r.new a o z
    · refine .inr ?_
      cases q : R.H0 a with
      | none => rfl
      | some u =>
        by_cases n : R.A0 = some a
        · obtain ⟨ds, e, _⟩ := r.a0 a n
          obtain ⟨b, xs, e1, _, e3, _⟩ := r.arg 0 ds e
          rw [n] at e1; cases e1
          rw [e3] at z; cases z
        · rw [r.kept a u q n] at z; cases z
  · obtain ⟨v, e, q⟩ := r.dat i d h
    exact ⟨v, e, dp_mono g.d q⟩
  · obtain ⟨a, xs, e1, e2, e3, e4, e5⟩ := r.own i ds h
    exact ⟨a, xs, e1, g.h _ _ e2, nD a _ e2 e3, dpAll_mono g.d e4, e5⟩
  · obtain ⟨a, xs, e0, e1, e2, e3, e4⟩ := r.arg i ds h
    exact ⟨a, xs, e0, e1, g.h _ _ e2, nD a _ e2 e3, dpAll_mono g.d e4⟩


abbrev DE := DEnv → (PyData → DEnv → Prop) → Prop
abbrev DT := DEnv → (Bool → DEnv → Prop) → Prop
abbrev DA := DEnv → (List PyData → DEnv → Prop) → Prop
def liftE (K : PySem.W.Frag) (R : Root) (de : DE) : TE := fun σ H Q => ∃ Γ D, Rep K R σ H Γ D ∧ de Γ fun d Γ' => ∀ v H' D', Rep K R σ H' Γ' D' → Step σ Γ D H Γ' D' H' → Dp K D' v d → Q v H'
def liftT (K : PySem.W.Frag) (R : Root) (dt : DT) : TT := fun σ H Q => ∃ Γ D, Rep K R σ H Γ D ∧ dt Γ fun b Γ' => ∀ H' D', Rep K R σ H' Γ' D' → Step σ Γ D H Γ' D' H' → Q b H'
def liftA (K : PySem.W.Frag) (R : Root) (da : DA) : TA := fun σ H Q => ∃ Γ D, Rep K R σ H Γ D ∧ da Γ fun ds Γ' => ∀ vs H' D', Rep K R σ H' Γ' D' → Step σ Γ D H Γ' D' H' → DpAll K D' vs ds → Q vs H'
def liftL (K : PySem.W.Frag) (R : Root) (dl : DA) : TE := fun σ H Q => ∃ Γ D, Rep K R σ H Γ D ∧ dl Γ fun ds Γ' => ∀ p xs H' D', Rep K R σ H' Γ' D' → Step σ Γ D H Γ' D' H' → H p = none → H' p = some (.lst xs) → D' p = none → ¬ Mine σ Γ' p → DpAll K D' xs ds → Q (.ref p) H'
abbrev PD (X : Cx) (R : Root) (e : Expr) (de : DE) : Prop := PE X e (liftE X.K R de)
abbrev PTD (X : Cx) (R : Root) (e : Expr) (dt : DT) : Prop := PT X e (liftT X.K R dt)
abbrev PWD (X : Cx) (R : Root) (e : Expr) (dt : DT) : Prop := PW X e (liftT X.K R dt)
abbrev PAD (X : Cx) (R : Root) (es : List Expr) (da : DA) : Prop := PA X es (liftA X.K R da)
abbrev PLD (X : Cx) (R : Root) (e : Expr) (dl : DA) : Prop := PE X e (liftL X.K R dl)
theorem pe_imp {X : Cx} {e : Expr} {t u : TE} (h : PE X e t) (i : ∀ σ H Q, u σ H Q → t σ H Q) : PE X e u := ⟨fun pins s σ H Q I q => h.run pins s σ H Q I (i σ H Q q)⟩
theorem pt_imp {X : Cx} {e : Expr} {t u : TT} (h : PT X e t) (i : ∀ σ H Q, u σ H Q → t σ H Q) : PT X e u := ⟨fun pins s σ H Q I q => h.run pins s σ H Q I (i σ H Q q)⟩
theorem pw_imp {X : Cx} {e : Expr} {t u : TT} (h : PW X e t) (i : ∀ σ H Q, u σ H Q → t σ H Q) : PW X e u := ⟨fun wh pins s σ H Q I q => h.run wh pins s σ H Q I (i σ H Q q)⟩
theorem pa_imp {X : Cx} {e : List Expr} {t u : TA} (h : PA X e t) (i : ∀ σ H Q, u σ H Q → t σ H Q) : PA X e u := ⟨fun pos pins s σ H Q I q => h.run pos pins s σ H Q I (i σ H Q q)⟩
theorem ps_imp {X : Cx} {e : Stmt} {t u : TS} (h : PS X e t) (i : ∀ D σ H, u D σ H → t D σ H) : PS X e u := ⟨fun pins s σ H D I q => h.run pins s σ H D I (i D σ H q)⟩
theorem pss_imp {X : Cx} {e : List Stmt} {t u : TS} (h : PSs X e t) (i : ∀ D σ H, u D σ H → t D σ H) : PSs X e u := ⟨fun pins s σ H D I q => h.run pins s σ H D I (i D σ H q)⟩
theorem runE {K : PySem.W.Frag} {R : Root} {de : DE} {σ : L2.St} {H D : Hp} {Γ : DEnv} {Q : VK} {W : PyData → DEnv → Prop} (r : Rep K R σ H Γ D) (h : de Γ W)
    (k : ∀ d Γ' v H' D', W d Γ' → Rep K R σ H' Γ' D' → Step σ Γ D H Γ' D' H' → Dp K D' v d → Q v H') (mono : ∀ Γ (W W' : PyData → DEnv → Prop), (∀ d Γ', W d Γ' → W' d Γ') → de Γ W → de Γ W') : liftE K R de σ H Q :=
  ⟨Γ, D, r, mono Γ _ _ (fun d Γ' w v H' D' r' st q => k d Γ' v H' D' w r' st q) h⟩
end DL

set_option Elab.async false
set_option linter.all false
set_option maxRecDepth 100000
namespace DL
open PySem PySem.Spec PyProof.Rows L2

def MonoK {α : Type} (d : DEnv → (α → DEnv → Prop) → Prop) : Prop := ∀ Γ (W W' : α → DEnv → Prop), (∀ x Γ', W x Γ' → W' x Γ') → d Γ W → d Γ W'
structure PDE (X : Cx) (R : Root) (e : Expr) (de : DE) : Prop where
  pe : PE X e (liftE X.K R de)
  mono : MonoK de
structure PDT (X : Cx) (R : Root) (e : Expr) (dt : DT) : Prop where
  pt : PT X e (liftT X.K R dt)
  mono : MonoK dt
structure PDW (X : Cx) (R : Root) (e : Expr) (dt : DT) : Prop where
  pw : PW X e (liftT X.K R dt)
  mono : MonoK dt
structure PDA (X : Cx) (R : Root) (es : List Expr) (da : DA) : Prop where
  pa : PA X es (liftA X.K R da)
  mono : MonoK da
structure PDL (X : Cx) (R : Root) (e : Expr) (dl : DA) : Prop where
  pl : PE X e (liftL X.K R dl)
  mono : MonoK dl

section
variable {X : Cx} {R : Root} {K : PySem.W.Frag} {σ : L2.St} {H D : Hp} {Γ : DEnv}
theorem goE {de : DE} {Q : VK} {W : PyData → DEnv → Prop} (r : Rep K R σ H Γ D) (m : MonoK de) (h : de Γ W)
    (k : ∀ d Γ' v H' D', W d Γ' → Rep K R σ H' Γ' D' → Step σ Γ D H Γ' D' H' → Dp K D' v d → Q v H') : liftE K R de σ H Q :=
  ⟨Γ, D, r, m Γ _ _ (fun d Γ' w v H' D' r' st q => k d Γ' v H' D' w r' st q) h⟩
theorem goT {dt : DT} {Q : Bool → Hp → Prop} {W : Bool → DEnv → Prop} (r : Rep K R σ H Γ D) (m : MonoK dt) (h : dt Γ W)
    (k : ∀ b Γ' H' D', W b Γ' → Rep K R σ H' Γ' D' → Step σ Γ D H Γ' D' H' → Q b H') : liftT K R dt σ H Q :=
  ⟨Γ, D, r, m Γ _ _ (fun b Γ' w H' D' r' st => k b Γ' H' D' w r' st) h⟩
theorem goA {da : DA} {Q : List V → Hp → Prop} {W : List PyData → DEnv → Prop} (r : Rep K R σ H Γ D) (m : MonoK da) (h : da Γ W)
    (k : ∀ ds Γ' vs H' D', W ds Γ' → Rep K R σ H' Γ' D' → Step σ Γ D H Γ' D' H' → DpAll K D' vs ds → Q vs H') : liftA K R da σ H Q :=
  ⟨Γ, D, r, m Γ _ _ (fun ds Γ' w vs H' D' r' st q => k ds Γ' vs H' D' w r' st q) h⟩
theorem goL {dl : DA} {Q : VK} {W : List PyData → DEnv → Prop} (r : Rep K R σ H Γ D) (m : MonoK dl) (h : dl Γ W)
    (k : ∀ ds Γ' p xs H' D', W ds Γ' → Rep K R σ H' Γ' D' → Step σ Γ D H Γ' D' H' → H p = none → H' p = some (.lst xs) → D' p = none → ¬ Mine σ Γ' p → DpAll K D' xs ds → Q (.ref p) H') : liftL K R dl σ H Q :=
  ⟨Γ, D, r, m Γ _ _ (fun ds Γ' w p xs H' D' r' st a b c n q => k ds Γ' p xs H' D' w r' st a b c n q) h⟩


def dVar (i : Nat) : DE := fun Γ Q => match Γ[i]? with
  | some (some (Ent.dat d)) => Q d Γ
  | some (some (Ent.own ds)) => Q (.list ds) (Γ.set i (some (Ent.dat (.list ds))))
  | _ => False
theorem dVar_mono (i : Nat) : MonoK (dVar i) := fun Γ W W' m h => by
  unfold dVar at h ⊢
  split at h
  · exact m _ _ h
  · exact m _ _ h
  · exact h
theorem freeze {i : Nat} {ds : List PyData} {a : Addr} {xs : List V} (r : Rep K R σ H Γ D) (hi : Γ[i]? = some (some (Ent.own ds))) (hs : σ[i]? = some (some (V.ref a))) (hH : H a = some (.lst xs)) (hD : D a = none) (hd : DpAll K D xs ds) (h0 : R.H0 a = none) :
    Rep K R σ H (Γ.set i (some (Ent.dat (.list ds)))) (upd D a (.lst xs)) ∧ Step σ Γ D H (Γ.set i (some (Ent.dat (.list ds)))) (upd D a (.lst xs)) H ∧ Dp K (upd D a (.lst xs)) (.ref a) (.list ds) := by
  have sm : Same D (upd D a (.lst xs)) := fun b u e => by rw [upd_ne (ne_of_none e hD)]; exact e
  have hil : i < Γ.length := (List.getElem?_eq_some_iff.mp hi).1
  have gi : (Γ.set i (some (Ent.dat (.list ds))))[i]? = some (some (Ent.dat (.list ds))) := List.getElem?_set_self hil
  have gj : ∀ j, j ≠ i → (Γ.set i (some (Ent.dat (.list ds))))[j]? = Γ[j]? := fun j n => List.getElem?_set_ne (Ne.symm n)
  have nj : ∀ (j : Nat) (es : List PyData), (Γ.set i (some (Ent.dat (.list ds))))[j]? = some (some (Ent.own es)) → j ≠ i ∧ Γ[j]? = some (some (Ent.own es)) := fun j es e => by
    by_cases n : j = i
    · subst n; rw [gi] at e; cases e
    · exact ⟨n, by rw [gj j n] at e; exact e⟩
  have nj2 : ∀ (j : Nat) (es : List PyData), (Γ.set i (some (Ent.dat (.list ds))))[j]? = some (some (Ent.arg es)) → j ≠ i ∧ Γ[j]? = some (some (Ent.arg es)) := fun j es e => by
    by_cases n : j = i
    · subst n; rw [gi] at e; cases e
    · exact ⟨n, by rw [gj j n] at e; exact e⟩
  have dp : Dp K (upd D a (.lst xs)) (.ref a) (.list ds) := .lst (SqX.of upd_same) (dpAll_mono sm hd)
  refine ⟨⟨fun b u e => ?_, r.ext.trans sm, fun b u e => ?_, r.kept, by rw [List.length_set]; exact r.len, fun j d e => ?_, fun j es e => ?_, fun j es e => ?_, fun b e => ?_, fun j k es fs b e1 e2 => ?_, r.args⟩,
    ⟨sm, fun b u e _ => e, fun b z => ?_, fun b u e => ?_, fun b u e => ⟨u, e⟩⟩, dp⟩
  · by_cases hb : b = a
    · subst hb; rw [upd_same] at e; cases e; exact hH
    · rw [upd_ne hb] at e; exact r.sub b u e
  · by_cases hb : b = a
    · subst hb; exact .inr h0
    · rw [upd_ne hb] at e; exact r.new b u e
  · by_cases n : j = i
    · subst n
      rw [gi] at e; cases e
      exact ⟨_, hs, dp⟩
    · rw [gj j n] at e
      obtain ⟨v, e1, q⟩ := r.dat j d e
      exact ⟨v, e1, dp_mono sm q⟩
  · obtain ⟨n, e'⟩ := nj j es e
    obtain ⟨b, ys, e1, e2, e3, e4, e5⟩ := r.own j es e'
    have hb : b ≠ a := fun z => by -- k09
      subst z
      exact n (r.apart j i es ds _ e' hi e1 hs)
    exact ⟨b, ys, e1, e2, by rw [upd_ne hb]; exact e3, dpAll_mono sm e4, e5⟩
  · obtain ⟨n, e'⟩ := nj2 j es e
    obtain ⟨b, ys, e0, e1, e2, e3, e4⟩ := r.arg j es e'
    have hb : b ≠ a := fun z => by -- k09
      subst z
      obtain ⟨o, q⟩ := r.args _ e0
      rw [h0] at q; cases q
    exact ⟨b, ys, e0, e1, e2, by rw [upd_ne hb]; exact e3, dpAll_mono sm e4⟩
  · obtain ⟨es, e1, e2⟩ := r.a0 b e
    have n : (0 : Nat) ≠ i := fun z => by rw [← z, e1] at hi; cases hi
    exact ⟨es, by rw [gj 0 n]; exact e1, fun j fs q => e2 j fs (nj2 j fs q).2⟩
  · exact r.apart j k es fs b (nj j es e1).2 (nj k fs e2).2
  · obtain ⟨j, e1, e2⟩ := z
    refine ⟨j, e1, ?_⟩
    rcases e2 with ⟨es, e2⟩ | ⟨es, e2⟩
    · exact .inl ⟨es, (nj j es e2).2⟩
    · exact .inr ⟨es, (nj2 j es e2).2⟩
  · by_cases hb : b = a
    · subst hb; exact .inr (.inr ⟨i, hs, .inl ⟨ds, hi⟩⟩)
    · rw [upd_ne hb] at e; exact .inl e
theorem pd_of_var {e : Expr} {i : Nat} (h : PE X e (tVar i)) : PDE X R e (dVar i) := by
  refine ⟨pe_imp h fun σ H Q q => ?_, dVar_mono i⟩
  obtain ⟨Γ, D, r, q⟩ := q
  unfold dVar at q
  split at q
  · rename_i d e1
    obtain ⟨v, e2, dp⟩ := r.dat i d e1
    exact ⟨v, e2, q v H D r Step.refl dp⟩
  · rename_i ds e1
    obtain ⟨a, xs, h1, h2, h3, h4, h5⟩ := r.own i ds e1
    obtain ⟨r', st, dp⟩ := freeze r e1 h1 h2 h3 h4 h5
    exact ⟨_, h1, q _ H _ r' st dp⟩
  · exact q.elim
theorem pd_var (i : Nat) {x : Str} {pos : Pos} (hN : X.N[i]? = some x := by rfl) (hv : Vis X.env.scope x := by first | exact Or.inl rfl | exact Or.inr (Or.inl rfl) | exact Or.inr (Or.inr rfl)) (hd : (x == ("__debug__" : Str)) = false := by decide)
    (hcd : (x == ("__classdict__" : Str)) = false := by decide) : PDE X R (.Name x pos) (dVar i) := pd_of_var (pe_var hN hv hd hcd)
def dC (d : PyData) : DE := fun Γ Q => Q d Γ
theorem dC_mono (d : PyData) : MonoK (dC d) := fun _ _ _ m h => m _ _ h
theorem pd_of_c {e : Expr} {v : V} {d : PyData} (h : PE X e (tC v)) (hd : ∀ D, Dp X.K D v d) : PDE X R e (dC d) :=
  ⟨pe_imp h fun σ H Q ⟨Γ, D, r, q⟩ => q v H D r Step.refl (hd D), dC_mono d⟩
theorem pd_int {i j pos} : PDE X R (.Constant (.int i) j pos) (dC (.int i)) := pd_of_c pe_int fun _ => .int i
theorem pd_bl {b j pos} : PDE X R (.Constant (.bool b) j pos) (dC (.bool b)) := pd_of_c pe_bl fun _ => .bl b
theorem pd_non {j pos} : PDE X R (.Constant .none j pos) (dC .none) := pd_of_c pe_non fun _ => .non
theorem pd_str {x j pos} : PDE X R (.Constant (.str x) j pos) (dC (.str x)) := pd_of_c pe_str fun _ => .str x
theorem pd_glob {x : Str} {v : V} {d : PyData} {u : Value} {pos : Pos} (hg : Gl X x) (hm : X.mg x = some u) (r : RelV v u) (hd : ∀ D, Dp X.K D v d) (hdb : (x == ("__debug__" : Str)) = false := by decide) : PDE X R (.Name x pos) (dC d) := pd_of_c (pe_glob hg hm r hdb) hd


def OpD (K : PySem.W.Frag) (r : R2) (b : PyData → PyData → (PyData → Prop) → Prop) : Prop :=
  ∀ (D H : Hp) (x y : V) (d e : PyData) (Q : VK), Sub D H → Dp K D x d → Dp K D y e → b d e (fun z => ∀ v H' D', Grow D H D' H' → Dp K D' v z → Q v H') → r x y H Q
def MonoB (b : PyData → PyData → (PyData → Prop) → Prop) : Prop := ∀ d e (W W' : PyData → Prop), (∀ z, W z → W' z) → b d e W → b d e W'
def dOp (b : PyData → PyData → (PyData → Prop) → Prop) (da db : DE) : DE := fun Γ Q => da Γ fun d Γ1 => db Γ1 fun e Γ2 => b d e fun z => Q z Γ2
theorem dOp_mono {b : PyData → PyData → (PyData → Prop) → Prop} {da db : DE} (mb : MonoB b) (ma : MonoK da) (mb' : MonoK db) : MonoK (dOp b da db) := fun Γ W W' m h =>
  ma Γ _ _ (fun d Γ1 h1 => mb' Γ1 _ _ (fun e Γ2 h2 => mb d e _ _ (fun z q => m z Γ2 q) h2) h1) h
theorem op_imp {r : R2} {b : PyData → PyData → (PyData → Prop) → Prop} {da db : DE} (ho : OpD K r b) (mb : MonoB b) (ma : MonoK da) (mb' : MonoK db) {Q : VK} (q : liftE K R (dOp b da db) σ H Q) : tOp r (liftE K R da) (liftE K R db) σ H Q := by
  obtain ⟨Γ, D, r0, h⟩ := q
  refine goE r0 ma h fun d Γ1 v H1 D1 h1 r1 s1 q1 => ?_
  refine goE r1 mb' h1 fun e Γ2 u H2 D2 h2 r2 s2 q2 => ?_
  refine ho D2 H2 v u d e Q r2.sub (dp_mono s2.d q1) q2 (mb d e _ _ (fun z w v' H' D' g q3 => ?_) h2)
  exact w v' H' D' (r2.grow g) ((s1.trans s2).trans g.step) q3
theorem pd_op {op : Operator} {a b : Expr} {pos : Pos} {r : R2} {bb : PyData → PyData → (PyData → Prop) → Prop} {da db : DE} (ho : OpR X (binaryOp op) r) (hd : OpD X.K r bb) (mb : MonoB bb) (ha : PDE X R a da) (hb : PDE X R b db) : PDE X R (.BinOp a op b pos) (dOp bb da db) :=
  ⟨pe_imp (pe_op ho ha.pe hb.pe) fun _ _ _ q => op_imp hd mb ha.mono hb.mono q, dOp_mono mb ha.mono hb.mono⟩
theorem pd_cmp {op : CmpOp} {a b : Expr} {pos : Pos} {r : R2} {bb : PyData → PyData → (PyData → Prop) → Prop} {da db : DE} (ho : OpR X (compareOp op) r) (hd : OpD X.K r bb) (mb : MonoB bb) (ha : PDE X R a da) (hb : PDE X R b db) (hm : behindInMarks op b = false) : PDE X R (.Compare a [op] [b] pos) (dOp bb da db) :=
  ⟨pe_imp (pe_cmpR ho ha.pe hb.pe hm) fun _ _ _ q => op_imp hd mb ha.mono hb.mono q, dOp_mono mb ha.mono hb.mono⟩
def dTest (da : DE) : DT := fun Γ Q => da Γ fun d Γ1 => match d with | .bool b => Q b Γ1 | _ => False
theorem dTest_mono {da : DE} (ma : MonoK da) : MonoK (dTest da) := fun Γ W W' m h => ma Γ _ _ (fun d Γ1 h1 => by cases d <;> first | exact m _ _ h1 | exact h1) h
theorem pt_of_b {e : Expr} {da : DE} (ma : MonoK da) (h : PT X e (tB (liftE X.K R da))) : PDT X R e (dTest da) := by
  refine ⟨pt_imp h fun σ H Q q => ?_, dTest_mono ma⟩
  obtain ⟨Γ, D, r0, h⟩ := q
  refine goE r0 ma h fun d Γ1 v H1 D1 h1 r1 s1 q1 => ?_
  cases q1 with
  | bl b => exact ⟨b, rfl, h1 H1 D1 r1 s1⟩
  | non => exact h1.elim
  | int _ => exact h1.elim
  | str _ => exact h1.elim
  | lst _ _ => exact h1.elim
  | tup _ _ => exact h1.elim
theorem pdt_val {e : Expr} {da : DE} (h : PDE X R e da) (he : ∀ whole, isTrue e X.env whole = (do let v ← whole; standAt e.pos; holding [v] (truthy v)) := by intro _; rfl) : PDT X R e (dTest da) := pt_of_b h.mono (pt_val h.pe he)
theorem pdt_cmp {op : CmpOp} {a b : Expr} {pos : Pos} {r : R2} {bb : PyData → PyData → (PyData → Prop) → Prop} {da db : DE} (ho : OpR X (compareOp op) r) (hd : OpD X.K r bb) (mb : MonoB bb) (ha : PDE X R a da) (hb : PDE X R b db) (hm : behindInMarks op b = false) : PDT X R (.Compare a [op] [b] pos) (dTest (dOp bb da db)) := by
  refine ⟨pt_imp (pt_cmpR ho ha.pe hb.pe hm) fun σ H Q q => ?_, dTest_mono (dOp_mono mb ha.mono hb.mono)⟩
  obtain ⟨Γ, D, r0, h⟩ := q
  show tOp r (liftE X.K R da) (liftE X.K R db) σ H fun x H' => ∃ k, x = .bl k ∧ Q k H'
  refine op_imp hd mb ha.mono hb.mono ⟨Γ, D, r0, dOp_mono mb ha.mono hb.mono Γ _ _ (fun d Γ1 w v H' D' r' st q => ?_) h⟩
  cases q with
  | bl b => exact ⟨b, rfl, w H' D' r' st⟩
  | non => exact w.elim
  | int _ => exact w.elim
  | str _ => exact w.elim
  | lst _ _ => exact w.elim
  | tup _ _ => exact w.elim


def dAnd (t u : DT) : DT := fun Γ Q => t Γ fun c Γ1 => if c = true then u Γ1 Q else Q false Γ1
def dOr (t u : DT) : DT := fun Γ Q => t Γ fun c Γ1 => if c = true then Q true Γ1 else u Γ1 Q
def dNot (t : DT) : DT := fun Γ Q => t Γ fun c Γ1 => Q (!c) Γ1
theorem dAnd_mono {t u : DT} (mt : MonoK t) (mu : MonoK u) : MonoK (dAnd t u) := fun Γ W W' m h => mt Γ _ _ (fun c Γ1 q => by
  cases c with
  | true => exact mu Γ1 _ _ m q
  | false => exact m _ _ q) h
theorem dOr_mono {t u : DT} (mt : MonoK t) (mu : MonoK u) : MonoK (dOr t u) := fun Γ W W' m h => mt Γ _ _ (fun c Γ1 q => by
  cases c with
  | false => exact mu Γ1 _ _ m q
  | true => exact m _ _ q) h
theorem dNot_mono {t : DT} (mt : MonoK t) : MonoK (dNot t) := fun Γ W W' m h => mt Γ _ _ (fun c Γ1 q => m _ _ q) h
theorem pdw_and1 {a : Expr} {pos : Pos} {t : DT} (h : PDT X R a t) : PDW X R (.BoolOp .And [a] pos) t := ⟨pw_and1 h.pt, h.mono⟩
theorem pdw_or1 {a : Expr} {pos : Pos} {t : DT} (h : PDT X R a t) : PDW X R (.BoolOp .Or [a] pos) t := ⟨pw_or1 h.pt, h.mono⟩
theorem pdw_and {a b : Expr} {rest : List Expr} {pos : Pos} {t u : DT} (ha : PDT X R a t) (hb : PDW X R (.BoolOp .And (b :: rest) pos) u) : PDW X R (.BoolOp .And (a :: b :: rest) pos) (dAnd t u) := by
  refine ⟨pw_imp (pw_and ha.pt hb.pw) fun σ H Q q => ?_, dAnd_mono ha.mono hb.mono⟩
  obtain ⟨Γ, D, r0, h⟩ := q
  refine goT r0 ha.mono h fun c Γ1 H1 D1 h1 r1 s1 => ?_
  cases c with
  | true => exact goT r1 hb.mono h1 fun b Γ2 H2 D2 h2 r2 s2 => h2 H2 D2 r2 (s1.trans s2)
  | false => exact h1 H1 D1 r1 s1
theorem pdw_or {a b : Expr} {rest : List Expr} {pos : Pos} {t u : DT} (ha : PDT X R a t) (hb : PDW X R (.BoolOp .Or (b :: rest) pos) u) : PDW X R (.BoolOp .Or (a :: b :: rest) pos) (dOr t u) := by
  refine ⟨pw_imp (pw_or ha.pt hb.pw) fun σ H Q q => ?_, dOr_mono ha.mono hb.mono⟩
  obtain ⟨Γ, D, r0, h⟩ := q
  refine goT r0 ha.mono h fun c Γ1 H1 D1 h1 r1 s1 => ?_
  cases c with
  | false => exact goT r1 hb.mono h1 fun b Γ2 H2 D2 h2 r2 s2 => h2 H2 D2 r2 (s1.trans s2)
  | true => exact h1 H1 D1 r1 s1
theorem PDW.t {e : Expr} {t : DT} (h : PDW X R e t) : PDT X R e t := ⟨h.pw.pt, h.mono⟩
theorem pdt_not {a : Expr} {pos : Pos} {t : DT} (h : PDT X R a t) : PDT X R (.UnaryOp .Not a pos) (dNot t) := by
  refine ⟨pt_imp (pt_not h.pt) fun σ H Q q => ?_, dNot_mono h.mono⟩
  obtain ⟨Γ, D, r0, q⟩ := q
  exact goT r0 h.mono q fun c Γ1 H1 D1 h1 r1 s1 => h1 H1 D1 r1 s1
def dAndV (a b : DE) : DE := fun Γ Q => a Γ fun d Γ1 => match d with | .bool true => b Γ1 Q | .bool false => Q (.bool false) Γ1 | _ => False
def dOrV (a b : DE) : DE := fun Γ Q => a Γ fun d Γ1 => match d with | .bool false => b Γ1 Q | .bool true => Q (.bool true) Γ1 | _ => False
def dNotV (a : DE) : DE := fun Γ Q => a Γ fun d Γ1 => match d with | .bool b => Q (.bool (!b)) Γ1 | _ => False
theorem dAndV_mono {a b : DE} (ma : MonoK a) (mb : MonoK b) : MonoK (dAndV a b) := fun Γ W W' m h => ma Γ _ _ (fun d Γ1 q => by
  cases d <;> try exact q
  rename_i c
  cases c with
  | true => exact mb Γ1 _ _ m q
  | false => exact m _ _ q) h
theorem dOrV_mono {a b : DE} (ma : MonoK a) (mb : MonoK b) : MonoK (dOrV a b) := fun Γ W W' m h => ma Γ _ _ (fun d Γ1 q => by
  cases d <;> try exact q
  rename_i c
  cases c with
  | false => exact mb Γ1 _ _ m q
  | true => exact m _ _ q) h
theorem dNotV_mono {a : DE} (ma : MonoK a) : MonoK (dNotV a) := fun Γ W W' m h => ma Γ _ _ (fun d Γ1 q => by
  cases d <;> first | exact m _ _ q | exact q) h
theorem pde_one {op} {a : Expr} {pos : Pos} {t : DE} (h : PDE X R a t) : PDE X R (.BoolOp op [a] pos) t := ⟨pe_one h.pe, h.mono⟩
theorem pde_and {a b : Expr} {rest : List Expr} {pos : Pos} {t u : DE} (ha : PDE X R a t) (hb : PDE X R (.BoolOp .And (b :: rest) pos) u) : PDE X R (.BoolOp .And (a :: b :: rest) pos) (dAndV t u) := by
  refine ⟨pe_imp (pe_and ha.pe hb.pe) fun σ H Q q => ?_, dAndV_mono ha.mono hb.mono⟩
  obtain ⟨Γ, D, r0, h⟩ := q
  refine goE r0 ha.mono h fun d Γ1 v H1 D1 h1 r1 s1 q1 => ?_
  cases q1 with
  | bl c =>
    refine ⟨c, rfl, ?_⟩
    cases c with
    | true => exact goE r1 hb.mono h1 fun e Γ2 u H2 D2 h2 r2 s2 q2 => h2 u H2 D2 r2 (s1.trans s2) q2
    | false => exact h1 _ H1 D1 r1 s1 (.bl false)
  | non => exact h1.elim
  | int _ => exact h1.elim
  | str _ => exact h1.elim
  | lst _ _ => exact h1.elim
  | tup _ _ => exact h1.elim
theorem pde_or {a b : Expr} {rest : List Expr} {pos : Pos} {t u : DE} (ha : PDE X R a t) (hb : PDE X R (.BoolOp .Or (b :: rest) pos) u) : PDE X R (.BoolOp .Or (a :: b :: rest) pos) (dOrV t u) := by
  refine ⟨pe_imp (pe_or ha.pe hb.pe) fun σ H Q q => ?_, dOrV_mono ha.mono hb.mono⟩
  obtain ⟨Γ, D, r0, h⟩ := q
  refine goE r0 ha.mono h fun d Γ1 v H1 D1 h1 r1 s1 q1 => ?_
  cases q1 with
  | bl c =>
    refine ⟨c, rfl, ?_⟩
    cases c with
    | false => exact goE r1 hb.mono h1 fun e Γ2 u H2 D2 h2 r2 s2 q2 => h2 u H2 D2 r2 (s1.trans s2) q2
    | true => exact h1 _ H1 D1 r1 s1 (.bl true)
  | non => exact h1.elim
  | int _ => exact h1.elim
  | str _ => exact h1.elim
  | lst _ _ => exact h1.elim
  | tup _ _ => exact h1.elim
theorem pde_not {a : Expr} {pos : Pos} {t : DE} (h : PDE X R a t) : PDE X R (.UnaryOp .Not a pos) (dNotV t) := by
  refine ⟨pe_imp (pe_not h.pe) fun σ H Q q => ?_, dNotV_mono h.mono⟩
  obtain ⟨Γ, D, r0, q⟩ := q
  refine goE r0 h.mono q fun d Γ1 v H1 D1 h1 r1 s1 q1 => ?_
  cases q1 with
  | bl c => exact ⟨c, rfl, h1 _ H1 D1 r1 s1 (.bl _)⟩
  | non => exact h1.elim
  | int _ => exact h1.elim
  | str _ => exact h1.elim
  | lst _ _ => exact h1.elim
  | tup _ _ => exact h1.elim
def dIf (t : DT) (a b : DE) : DE := fun Γ Q => t Γ fun c Γ1 => if c = true then a Γ1 Q else b Γ1 Q
theorem dIf_mono {t : DT} {a b : DE} (mt : MonoK t) (ma : MonoK a) (mb : MonoK b) : MonoK (dIf t a b) := fun Γ W W' m h => mt Γ _ _ (fun c Γ1 q => by
  cases c with
  | true => exact ma Γ1 _ _ m q
  | false => exact mb Γ1 _ _ m q) h
theorem pde_if {c a b : Expr} {pos : Pos} {t : DT} {da db : DE} (hc : PDT X R c t) (ha : PDE X R a da) (hb : PDE X R b db) : PDE X R (.IfExp c a b pos) (dIf t da db) := by
  refine ⟨pe_imp (pe_ifExp hc.pt ha.pe hb.pe) fun σ H Q q => ?_, dIf_mono hc.mono ha.mono hb.mono⟩
  obtain ⟨Γ, D, r0, h⟩ := q
  refine goT r0 hc.mono h fun c Γ1 H1 D1 h1 r1 s1 => ?_
  cases c with
  | true => exact goE r1 ha.mono h1 fun e Γ2 u H2 D2 h2 r2 s2 q2 => h2 u H2 D2 r2 (s1.trans s2) q2
  | false => exact goE r1 hb.mono h1 fun e Γ2 u H2 D2 h2 r2 s2 q2 => h2 u H2 D2 r2 (s1.trans s2) q2


def dNil : DA := fun Γ Q => Q [] Γ
def dCons (a : DE) (b : DA) : DA := fun Γ Q => a Γ fun d Γ1 => b Γ1 fun ds Γ2 => Q (d :: ds) Γ2
theorem dNil_mono : MonoK dNil := fun _ _ _ m h => m _ _ h
theorem dCons_mono {a : DE} {b : DA} (ma : MonoK a) (mb : MonoK b) : MonoK (dCons a b) := fun Γ W W' m h => ma Γ _ _ (fun d Γ1 q => mb Γ1 _ _ (fun ds Γ2 q2 => m _ _ q2) q) h
theorem pda_nil : PDA X R [] dNil := ⟨pa_imp pa_nil fun σ H Q ⟨Γ, D, r, q⟩ => q [] H D r Step.refl .nil, dNil_mono⟩
theorem pda_cons {e : Expr} {es : List Expr} {a : DE} {b : DA} (ha : PDE X R e a) (hb : PDA X R es b) (hs : starEach (e :: es) X.env = (false, eval e X.env) :: starEach es X.env := by rfl) : PDA X R (e :: es) (dCons a b) := by
  refine ⟨pa_imp (pa_cons ha.pe hb.pa hs) fun σ H Q q => ?_, dCons_mono ha.mono hb.mono⟩
  obtain ⟨Γ, D, r0, h⟩ := q
  refine goE r0 ha.mono h fun d Γ1 v H1 D1 h1 r1 s1 q1 => ?_
  refine goA r1 hb.mono h1 fun ds Γ2 vs H2 D2 h2 r2 s2 q2 => ?_
  exact h2 (v :: vs) H2 D2 r2 (s1.trans s2) (.cons (dp_mono s2.d q1) q2)
def dTup (a : DA) : DE := fun Γ Q => a Γ fun ds Γ1 => ds.length ≤ 1000000 ∧ Q (.tuple ds) Γ1
def dLst (a : DA) : DA := fun Γ Q => a Γ fun ds Γ1 => ds.length ≤ 1000000 ∧ Q ds Γ1
theorem dTup_mono {a : DA} (ma : MonoK a) : MonoK (dTup a) := fun Γ W W' m h => ma Γ _ _ (fun ds Γ1 q => ⟨q.1, m _ _ q.2⟩) h
theorem dLst_mono {a : DA} (ma : MonoK a) : MonoK (dLst a) := fun Γ W W' m h => ma Γ _ _ (fun ds Γ1 q => ⟨q.1, m _ _ q.2⟩) h
theorem szM {n : Nat} (h : n ≤ 1000000) : n ≤ sizeLine := Nat.le_trans h (by decide)
theorem pde_tup {es : List Expr} {x1} {pos : Pos} {a : DA} (h : PDA X R es a) : PDE X R (.Tuple es x1 pos) (dTup a) := by
  refine ⟨pe_imp (pe_tup h.pa) fun σ H Q q => ?_, dTup_mono h.mono⟩
  obtain ⟨Γ, D, r0, q⟩ := q
  refine goA r0 h.mono q fun ds Γ1 vs H1 D1 h1 r1 s1 q1 => ?_
  refine ⟨by rw [dpAll_len q1]; exact szM h1.1, fun p hp => ?_⟩
  have g := Grow.upd (o := .tup vs) r1.sub hp
  exact h1.2 _ _ _ (r1.grow g) (s1.trans g.step) (.tup (SqT.of upd_same) (dpAll_mono g.d q1))
theorem mine_there {p : Addr} (r : Rep K R σ H Γ D) (m : Mine σ Γ p) : ∃ o, H p = some o := by
  obtain ⟨i, e, h⟩ := m
  rcases h with ⟨ds, h⟩ | ⟨ds, h⟩
  · obtain ⟨a, xs, e1, e2, _⟩ := r.own i ds h
    rw [e] at e1; cases e1
    exact ⟨_, e2⟩
  · obtain ⟨a, xs, _, e1, e2, _⟩ := r.arg i ds h
    rw [e] at e1; cases e1
    exact ⟨_, e2⟩
theorem mine_no {p : Addr} (r : Rep K R σ H Γ D) (h : H p = none) : ¬ Mine σ Γ p := fun m => by
  obtain ⟨o, e⟩ := mine_there r m
  rw [h] at e; cases e
theorem step_free {Γ' : DEnv} {D' H' : Hp} {p : Addr} (s : Step σ Γ D H Γ' D' H') (h : H' p = none) : H p = none := by
  cases q : H p with
  | none => rfl
  | some o =>
    obtain ⟨o', e⟩ := s.there p o q
    rw [h] at e; cases e
theorem d_none {p : Addr} (s : Sub D H) (h : H p = none) : D p = none := by
  cases q : D p with
  | none => rfl
  | some u => rw [s p u q] at h; cases h
theorem pdl_lst {es : List Expr} {pos : Pos} {a : DA} (h : PDA X R es a) : PDL X R (.List es pos) (dLst a) := by
  refine ⟨pe_imp (pe_lst h.pa) fun σ H Q q => ?_, dLst_mono h.mono⟩
  obtain ⟨Γ, D, r0, q⟩ := q
  refine goA r0 h.mono q fun ds Γ1 vs H1 D1 h1 r1 s1 q1 => ?_
  refine ⟨by rw [dpAll_len q1]; exact szM h1.1, fun p hp => ?_⟩
  have g := Grow.tmp (o := .lst vs) r1.sub hp
  exact h1.2 p vs _ D1 (r1.grow g) (s1.trans g.step) (step_free s1 hp) upd_same (d_none r1.sub hp) (mine_no r1 hp) q1
def dFrz (a : DA) : DE := fun Γ Q => a Γ fun ds Γ1 => Q (.list ds) Γ1
theorem dFrz_mono {a : DA} (ma : MonoK a) : MonoK (dFrz a) := fun Γ W W' m h => ma Γ _ _ (fun ds Γ1 q => m _ _ q) h
theorem frz_grow {p : Addr} {xs : List V} (r : Rep K R σ H Γ D) (h0 : R.H0 p = none) (hp : H p = some (.lst xs)) (hD : D p = none) (hm : ¬ Mine σ Γ p) : Rep K R σ H Γ (upd D p (.lst xs)) := by
  have sm : Same D (upd D p (.lst xs)) := fun b u e => by rw [upd_ne (ne_of_none e hD)]; exact e
  refine ⟨fun b u e => ?_, r.ext.trans sm, fun b u e => ?_, r.kept, r.len, fun j d e => ?_, fun j es e => ?_, fun j es e => ?_, r.a0, r.apart, r.args⟩
  · by_cases hb : b = p
    · subst hb; rw [upd_same] at e; cases e; exact hp
    · rw [upd_ne hb] at e; exact r.sub b u e
  · by_cases hb : b = p
    · subst hb; exact .inr h0
    · rw [upd_ne hb] at e; exact r.new b u e
  · obtain ⟨v, e1, q⟩ := r.dat j d e
    exact ⟨v, e1, dp_mono sm q⟩
  · obtain ⟨b, ys, e1, e2, e3, e4, e5⟩ := r.own j es e
    have hb : b ≠ p := fun z => hm ⟨j, by rw [← z]; exact e1, .inl ⟨es, e⟩⟩
    exact ⟨b, ys, e1, e2, by rw [upd_ne hb]; exact e3, dpAll_mono sm e4, e5⟩
  · obtain ⟨b, ys, e0, e1, e2, e3, e4⟩ := r.arg j es e
    have hb : b ≠ p := fun z => hm ⟨j, by rw [← z]; exact e1, .inr ⟨es, e⟩⟩
    exact ⟨b, ys, e0, e1, e2, by rw [upd_ne hb]; exact e3, dpAll_mono sm e4⟩
theorem h0_none {p : Addr} (r : Rep K R σ H Γ D) (h : H p = none) : R.H0 p = none := by
  cases q : R.H0 p with
  | none => rfl
  | some u =>
    by_cases n : R.A0 = some p
    · obtain ⟨ds, e, _⟩ := r.a0 p n
      obtain ⟨b, xs, e1, _, e3, _⟩ := r.arg 0 ds e
      rw [n] at e1; cases e1
      rw [e3] at h; cases h
    · rw [r.kept p u q n] at h; cases h
theorem pde_frz {e : Expr} {a : DA} (h : PDL X R e a) : PDE X R e (dFrz a) := by
  refine ⟨pe_imp h.pl fun σ H Q q => ?_, dFrz_mono h.mono⟩
  obtain ⟨Γ, D, r0, q⟩ := q
  refine goL r0 h.mono q fun ds Γ1 p xs H1 D1 h1 r1 s1 hp hp1 hD1 nm q1 => ?_
  have r2 := frz_grow r1 (h0_none r0 hp) hp1 hD1 nm
  have sm : Same D1 (upd D1 p (.lst xs)) := fun b u e => by rw [upd_ne (ne_of_none e hD1)]; exact e
  refine h1 (.ref p) H1 _ r2 ⟨s1.d.trans sm, s1.keep, s1.mine, fun b u e => ?_, s1.there⟩ (.lst (SqX.of upd_same) (dpAll_mono sm q1))
  by_cases hb : b = p
  · subst hb; exact .inr (.inl hp)
  · rw [upd_ne hb] at e; exact s1.new b u e
def CallD (K : PySem.W.Frag) (r : List V → Hp → VK → Prop) (c : List PyData → (PyData → Prop) → Prop) : Prop :=
  ∀ (D H : Hp) (xs : List V) (ds : List PyData) (Q : VK), Sub D H → DpAll K D xs ds → c ds (fun z => ∀ v H' D', Grow D H D' H' → Dp K D' v z → Q v H') → r xs H Q
def MonoC (c : List PyData → (PyData → Prop) → Prop) : Prop := ∀ ds (W W' : PyData → Prop), (∀ z, W z → W' z) → c ds W → c ds W'
def dCall (c : List PyData → (PyData → Prop) → Prop) (a : DA) : DE := fun Γ Q => a Γ fun ds Γ1 => c ds fun z => Q z Γ1
theorem dCall_mono {c : List PyData → (PyData → Prop) → Prop} {a : DA} (mc : MonoC c) (ma : MonoK a) : MonoK (dCall c a) := fun Γ W W' m h => ma Γ _ _ (fun ds Γ1 q => mc ds _ _ (fun z w => m z Γ1 w) q) h
theorem callB_imp {r : List V → Hp → VK → Prop} {c : List PyData → (PyData → Prop) → Prop} {a : DA} (hc : CallD K r c) (mc : MonoC c) (ma : MonoK a) {Q : VK} (q : liftE K R (dCall c a) σ H Q) : tCB r (liftA K R a) σ H Q := by
  obtain ⟨Γ, D, r0, h⟩ := q
  refine goA r0 ma h fun ds Γ1 vs H1 D1 h1 r1 s1 q1 => ?_
  exact hc D1 H1 vs ds Q r1.sub q1 (mc ds _ _ (fun z w v H' D' g q2 => w v H' D' (r1.grow g) (s1.trans g.step) q2) h1)
theorem pde_callB {x : Str} {id : String} {p pos : Pos} {e : Expr} {es : List Expr} {r : List V → Hp → VK → Prop} {c : List PyData → (PyData → Prop) → Prop} {a : DA} (hr : CallR X (.builtin id) r) (hc : CallD X.K r c) (mc : MonoC c) (hg : Gl X x) (hm : X.mg x = none) (hv : bootBuiltins x = some (.builtin id)) (ha : PDA X R (e :: es) a) (hn : x ≠ "__name__" := by decide) (hdb : (x == ("__debug__" : Str)) = false := by decide)
    (he : starEach (e :: es) X.env = (false, eval e X.env) :: starEach es X.env := by rfl) (hpl : (backTo pos (starEach es X.env)).any (·.1) = false := by rfl) : PDE X R (.Call (.Name x p) (e :: es) [] pos) (dCall c a) :=
  ⟨pe_imp (pe_callB hr hg hm hv ha.pa hn hdb he hpl) fun _ _ _ q => callB_imp hc mc ha.mono q, dCall_mono mc ha.mono⟩
theorem pde_callTy {x : Str} {T : String} {p pos : Pos} {e : Expr} {es : List Expr} {r : List V → Hp → VK → Prop} {c : List PyData → (PyData → Prop) → Prop} {a : DA} (hr : CallR X (.type T) r) (hc : CallD X.K r c) (mc : MonoC c) (hg : Gl X x) (hm : X.mg x = none) (hv : bootBuiltins x = some (.type T)) (ha : PDA X R (e :: es) a) (hn : x ≠ "__name__" := by decide) (hdb : (x == ("__debug__" : Str)) = false := by decide)
    (he : starEach (e :: es) X.env = (false, eval e X.env) :: starEach es X.env := by rfl) (hpl : (backTo pos (starEach es X.env)).any (·.1) = false := by rfl) : PDE X R (.Call (.Name x p) (e :: es) [] pos) (dCall c a) :=
  ⟨pe_imp (pe_callTy hr hg hm hv ha.pa hn hdb he hpl) fun _ _ _ q => callB_imp hc mc ha.mono q, dCall_mono mc ha.mono⟩
end
end DL

set_option Elab.async false
set_option linter.all false
set_option maxRecDepth 100000
namespace DL
open PySem PySem.Spec PyProof.Rows L2


def dSet (i : Nat) (e : Ent) (Γ : DEnv) (Q : DEnv → Prop) : Prop := match Γ[i]? with
  | some (some (Ent.arg _)) => False
  | some _ => Q (Γ.set i (some e))
  | none => False
theorem dSet_mono {i : Nat} {e : Ent} {Γ : DEnv} {Q Q' : DEnv → Prop} (m : ∀ Γ, Q Γ → Q' Γ) (h : dSet i e Γ Q) : dSet i e Γ Q' := by
  unfold dSet at h ⊢
  split at h
  · exact h
  · exact m _ h
  · exact h
section
variable {X : Cx} {R : Root} {K : PySem.W.Frag} {σ : L2.St} {H D : Hp} {Γ : DEnv}
theorem Rep.setD {i : Nat} {v : V} {d : PyData} {c : Option Ent} (r : Rep K R σ H Γ D) (hi : Γ[i]? = some c) (hn : ∀ ds, c ≠ some (Ent.arg ds)) (hd : Dp K D v d) : Rep K R (σ.set i (some v)) H (Γ.set i (some (Ent.dat d))) D := by
  have hil : i < Γ.length := (List.getElem?_eq_some_iff.mp hi).1
  have his : i < σ.length := by rw [r.len]; exact hil
  have gi : (Γ.set i (some (Ent.dat d)))[i]? = some (some (Ent.dat d)) := List.getElem?_set_self hil
  have gj : ∀ j, j ≠ i → (Γ.set i (some (Ent.dat d)))[j]? = Γ[j]? := fun j n => List.getElem?_set_ne (Ne.symm n)
  have sj : ∀ j, j ≠ i → (σ.set i (some v))[j]? = σ[j]? := fun j n => List.getElem?_set_ne (Ne.symm n)
  have nj : ∀ (j : Nat) (es : List PyData), (Γ.set i (some (Ent.dat d)))[j]? = some (some (Ent.own es)) → j ≠ i ∧ Γ[j]? = some (some (Ent.own es)) := fun j es e => by
    by_cases n : j = i
    · subst n; rw [gi] at e; cases e
    · exact ⟨n, by rw [gj j n] at e; exact e⟩
  have nj2 : ∀ (j : Nat) (es : List PyData), (Γ.set i (some (Ent.dat d)))[j]? = some (some (Ent.arg es)) → j ≠ i ∧ Γ[j]? = some (some (Ent.arg es)) := fun j es e => by
    by_cases n : j = i
    · subst n; rw [gi] at e; cases e
    · exact ⟨n, by rw [gj j n] at e; exact e⟩
  refine ⟨r.sub, r.ext, r.new, r.kept, by rw [List.length_set, List.length_set]; exact r.len, fun j d' e => ?_, fun j es e => ?_, fun j es e => ?_, fun b e => ?_, fun j k es fs b e1 e2 e3 e4 => ?_, r.args⟩
  · by_cases n : j = i
    · subst n
      rw [gi] at e; cases e
      exact ⟨v, List.getElem?_set_self his, hd⟩
    · rw [gj j n] at e
      rw [sj j n]
      exact r.dat j d' e
  · obtain ⟨n, e'⟩ := nj j es e
    rw [sj j n]
    exact r.own j es e'
  · obtain ⟨n, e'⟩ := nj2 j es e
    rw [sj j n]
    exact r.arg j es e'
  · obtain ⟨es, e1, e2⟩ := r.a0 b e
    have n : (0 : Nat) ≠ i := fun z => by
      rw [← z, e1] at hi
      exact hn es (Option.some.inj hi).symm
    exact ⟨es, by rw [gj 0 n]; exact e1, fun j fs q => e2 j fs (nj2 j fs q).2⟩
  · obtain ⟨n1, e1'⟩ := nj j es e1
    obtain ⟨n2, e2'⟩ := nj k fs e2
    rw [sj j n1] at e3
    rw [sj k n2] at e4
    exact r.apart j k es fs b e1' e2' e3 e4
theorem Rep.setO {i : Nat} {p : Addr} {xs : List V} {ds : List PyData} {c : Option Ent} (r : Rep K R σ H Γ D) (hi : Γ[i]? = some c) (hn : ∀ ds, c ≠ some (Ent.arg ds)) (h0 : R.H0 p = none) (hp : H p = some (.lst xs)) (hD : D p = none) (hm : ¬ Mine σ Γ p) (hd : DpAll K D xs ds) :
    Rep K R (σ.set i (some (.ref p))) H (Γ.set i (some (Ent.own ds))) D := by
  have hil : i < Γ.length := (List.getElem?_eq_some_iff.mp hi).1
  have his : i < σ.length := by rw [r.len]; exact hil
  have gi : (Γ.set i (some (Ent.own ds)))[i]? = some (some (Ent.own ds)) := List.getElem?_set_self hil
  have gj : ∀ j, j ≠ i → (Γ.set i (some (Ent.own ds)))[j]? = Γ[j]? := fun j n => List.getElem?_set_ne (Ne.symm n)
  have si : (σ.set i (some (V.ref p)))[i]? = some (some (V.ref p)) := List.getElem?_set_self his
  have sj : ∀ j, j ≠ i → (σ.set i (some (V.ref p)))[j]? = σ[j]? := fun j n => List.getElem?_set_ne (Ne.symm n)
  have nj2 : ∀ (j : Nat) (es : List PyData), (Γ.set i (some (Ent.own ds)))[j]? = some (some (Ent.arg es)) → j ≠ i ∧ Γ[j]? = some (some (Ent.arg es)) := fun j es e => by
    by_cases n : j = i
    · subst n; rw [gi] at e; cases e
    · exact ⟨n, by rw [gj j n] at e; exact e⟩
  refine ⟨r.sub, r.ext, r.new, r.kept, by rw [List.length_set, List.length_set]; exact r.len, fun j d' e => ?_, fun j es e => ?_, fun j es e => ?_, fun b e => ?_, fun j k es fs b e1 e2 e3 e4 => ?_, r.args⟩
  · by_cases n : j = i
    · subst n
      rw [gi] at e; cases e
    · rw [gj j n] at e
      rw [sj j n]
      exact r.dat j d' e
  · by_cases n : j = i
    · subst n
      rw [gi] at e; cases e
      exact ⟨p, xs, si, hp, hD, hd, h0⟩
    · rw [gj j n] at e
      rw [sj j n]
      exact r.own j es e
  · obtain ⟨n, e'⟩ := nj2 j es e
    rw [sj j n]
    exact r.arg j es e'
  · obtain ⟨es, e1, e2⟩ := r.a0 b e
    have n : (0 : Nat) ≠ i := fun z => by
      rw [← z, e1] at hi
      exact hn es (Option.some.inj hi).symm
    exact ⟨es, by rw [gj 0 n]; exact e1, fun j fs q => e2 j fs (nj2 j fs q).2⟩
  · by_cases n1 : j = i
    · by_cases n2 : k = i
      · rw [n1, n2]
      · subst n1
        rw [si] at e3
        have e3' := Option.some.inj (Option.some.inj e3)
        cases e3'
        rw [gj k n2] at e2
        rw [sj k n2] at e4
        exact (hm ⟨k, e4, .inl ⟨fs, e2⟩⟩).elim
    · by_cases n2 : k = i
      · subst n2
        rw [si] at e4
        have e4' := Option.some.inj (Option.some.inj e4)
        cases e4'
        rw [gj j n1] at e1
        rw [sj j n1] at e3
        exact (hm ⟨j, e3, .inl ⟨es, e1⟩⟩).elim
      · rw [gj j n1] at e1
        rw [gj k n2] at e2
        rw [sj j n1] at e3
        rw [sj k n2] at e4
        exact r.apart j k es fs b e1 e2 e3 e4
theorem Rep.chg {i : Nat} {ds es : List PyData} {a : Addr} {xs ys : List V} (r : Rep K R σ H Γ D) (hi : Γ[i]? = some (some (Ent.own ds))) (hs : σ[i]? = some (some (V.ref a))) (hH : H a = some (.lst xs)) (hd : DpAll K D ys es) :
    Rep K R σ (upd H a (.lst ys)) (Γ.set i (some (Ent.own es))) D ∧ Step σ Γ D H (Γ.set i (some (Ent.own es))) D (upd H a (.lst ys)) := by
  obtain ⟨a', xs', q1, q2, q3, q4, q5⟩ := r.own i ds hi
  rw [hs] at q1
  obtain rfl : a = a' := by cases q1; rfl
  have hil : i < Γ.length := (List.getElem?_eq_some_iff.mp hi).1
  have gi : (Γ.set i (some (Ent.own es)))[i]? = some (some (Ent.own es)) := List.getElem?_set_self hil
  have gj : ∀ j, j ≠ i → (Γ.set i (some (Ent.own es)))[j]? = Γ[j]? := fun j n => List.getElem?_set_ne (Ne.symm n)
  have own : ∀ (j : Nat) (fs : List PyData), (Γ.set i (some (Ent.own es)))[j]? = some (some (Ent.own fs)) → ∃ gs, Γ[j]? = some (some (Ent.own gs)) := fun j fs e => by
    by_cases n : j = i
    · subst n; exact ⟨ds, hi⟩
    · rw [gj j n] at e; exact ⟨fs, e⟩
  have arg : ∀ (j : Nat) (fs : List PyData), (Γ.set i (some (Ent.own es)))[j]? = some (some (Ent.arg fs)) → j ≠ i ∧ Γ[j]? = some (some (Ent.arg fs)) := fun j fs e => by
    by_cases n : j = i
    · subst n; rw [gi] at e; cases e
    · rw [gj j n] at e; exact ⟨n, e⟩
  refine ⟨⟨fun b u e => ?_, r.ext, r.new, fun b u e n => ?_, by rw [List.length_set]; exact r.len, fun j d e => ?_, fun j fs e => ?_, fun j fs e => ?_, fun b e => ?_, fun j k fs gs b e1 e2 e3 e4 => ?_, r.args⟩,
    ⟨Same.refl _, fun b u e nm => ?_, fun b z => ?_, fun b u e => .inl e, fun b u e => ?_⟩⟩
  · rw [upd_ne (ne_of_none e q3)]; exact r.sub b u e
  · rw [upd_ne (ne_of_none e q5)]; exact r.kept b u e n
  · by_cases n : j = i
    · subst n; rw [gi] at e; cases e
    · rw [gj j n] at e; exact r.dat j d e
  · by_cases n : j = i
    · subst n
      rw [gi] at e; cases e
      exact ⟨a, ys, hs, upd_same, q3, hd, q5⟩
    · rw [gj j n] at e
      obtain ⟨b, zs, e1, e2, e3, e4, e5⟩ := r.own j fs e
      have hb : b ≠ a := fun z => by -- k09
        subst z
        exact n (r.apart j i fs ds _ e hi e1 hs)
      exact ⟨b, zs, e1, by rw [upd_ne hb]; exact e2, e3, e4, e5⟩
  · obtain ⟨n, e'⟩ := arg j fs e
    obtain ⟨b, zs, e0, e1, e2, e3, e4⟩ := r.arg j fs e'
    have hb : b ≠ a := fun z => by -- k09
      subst z
      obtain ⟨o, q⟩ := r.args _ e0
      rw [q5] at q; cases q
    exact ⟨b, zs, e0, e1, by rw [upd_ne hb]; exact e2, e3, e4⟩
  · obtain ⟨fs, e1, e2⟩ := r.a0 b e
    have n : (0 : Nat) ≠ i := fun z => by rw [← z, e1] at hi; cases hi
    exact ⟨fs, by rw [gj 0 n]; exact e1, fun j gs q => e2 j gs (arg j gs q).2⟩
  · obtain ⟨fs', e1'⟩ := own j fs e1
    obtain ⟨gs', e2'⟩ := own k gs e2
    exact r.apart j k fs' gs' b e1' e2' e3 e4
  · have hb : b ≠ a := fun z => nm ⟨i, by rw [z]; exact hs, .inl ⟨ds, hi⟩⟩
    rw [upd_ne hb]; exact e
  · obtain ⟨j, e1, e2⟩ := z
    refine ⟨j, e1, ?_⟩
    rcases e2 with ⟨fs, e2⟩ | ⟨fs, e2⟩
    · exact .inl (own j fs e2)
    · exact .inr ⟨fs, (arg j fs e2).2⟩
  · by_cases hb : b = a
    · subst hb; exact ⟨_, upd_same⟩
    · exact ⟨u, by rw [upd_ne hb]; exact e⟩
theorem Rep.chgA {i : Nat} {ds es : List PyData} {a : Addr} {xs ys : List V} (r : Rep K R σ H Γ D) (hi : Γ[i]? = some (some (Ent.arg ds))) (hs : σ[i]? = some (some (V.ref a))) (hH : H a = some (.lst xs)) (hd : DpAll K D ys es) :
    Rep K R σ (upd H a (.lst ys)) (Γ.set i (some (Ent.arg es))) D ∧ Step σ Γ D H (Γ.set i (some (Ent.arg es))) D (upd H a (.lst ys)) := by
  obtain ⟨a', xs', q0, q1, q2, q3, q4⟩ := r.arg i ds hi
  rw [hs] at q1
  obtain rfl : a = a' := by cases q1; rfl
  have hil : i < Γ.length := (List.getElem?_eq_some_iff.mp hi).1
  have gi : (Γ.set i (some (Ent.arg es)))[i]? = some (some (Ent.arg es)) := List.getElem?_set_self hil
  have gj : ∀ j, j ≠ i → (Γ.set i (some (Ent.arg es)))[j]? = Γ[j]? := fun j n => List.getElem?_set_ne (Ne.symm n)
  have i0 : i = 0 := by
    obtain ⟨fs, e1, e2⟩ := r.a0 a q0
    exact e2 i ds hi
  have arg : ∀ (j : Nat) (fs : List PyData), (Γ.set i (some (Ent.arg es)))[j]? = some (some (Ent.arg fs)) → ∃ gs, Γ[j]? = some (some (Ent.arg gs)) := fun j fs e => by
    by_cases n : j = i
    · subst n; exact ⟨ds, hi⟩
    · rw [gj j n] at e; exact ⟨fs, e⟩
  have own : ∀ (j : Nat) (fs : List PyData), (Γ.set i (some (Ent.arg es)))[j]? = some (some (Ent.own fs)) → j ≠ i ∧ Γ[j]? = some (some (Ent.own fs)) := fun j fs e => by
    by_cases n : j = i
    · subst n; rw [gi] at e; cases e
    · rw [gj j n] at e; exact ⟨n, e⟩
  refine ⟨⟨fun b u e => ?_, r.ext, r.new, fun b u e n => ?_, by rw [List.length_set]; exact r.len, fun j d e => ?_, fun j fs e => ?_, fun j fs e => ?_, fun b e => ?_, fun j k fs gs b e1 e2 e3 e4 => ?_, r.args⟩,
    ⟨Same.refl _, fun b u e nm => ?_, fun b z => ?_, fun b u e => .inl e, fun b u e => ?_⟩⟩
  · rw [upd_ne (ne_of_none e q3)]; exact r.sub b u e
  · have hb : b ≠ a := fun z => by rw [z] at n; exact n q0
    rw [upd_ne hb]; exact r.kept b u e n
  · by_cases n : j = i
    · subst n; rw [gi] at e; cases e
    · rw [gj j n] at e; exact r.dat j d e
  · obtain ⟨n, e'⟩ := own j fs e
    obtain ⟨b, zs, e1, e2, e3, e4, e5⟩ := r.own j fs e'
    have hb : b ≠ a := fun z => by -- k09
      subst z
      obtain ⟨o, q⟩ := r.args _ q0
      rw [e5] at q; cases q
    exact ⟨b, zs, e1, by rw [upd_ne hb]; exact e2, e3, e4, e5⟩
  · by_cases n : j = i
    · subst n
      rw [gi] at e; cases e
      exact ⟨a, ys, q0, hs, upd_same, q3, hd⟩
    · rw [gj j n] at e
      obtain ⟨gs, e1, e2⟩ := r.a0 a q0
      exact (n ((e2 j fs e).trans i0.symm)).elim
  · obtain ⟨fs, e1, e2⟩ := r.a0 b e
    rw [q0] at e; cases e
    refine ⟨es, by rw [← i0]; exact gi, fun j gs q => ?_⟩
    obtain ⟨hs', q'⟩ := arg j gs q
    exact e2 j hs' q'
  · exact r.apart j k fs gs b (own j fs e1).2 (own k gs e2).2 e3 e4
  · have hb : b ≠ a := fun z => nm ⟨i, by rw [z]; exact hs, .inr ⟨ds, hi⟩⟩
    rw [upd_ne hb]; exact e
  · obtain ⟨j, e1, e2⟩ := z
    refine ⟨j, e1, ?_⟩
    rcases e2 with ⟨fs, e2⟩ | ⟨fs, e2⟩
    · exact .inl ⟨fs, (own j fs e2).2⟩
    · exact .inr (arg j fs e2)
  · by_cases hb : b = a
    · subst hb; exact ⟨_, upd_same⟩
    · exact ⟨u, by rw [upd_ne hb]; exact e⟩
end


structure DEnds where
  nx : DEnv → Prop
  rt : PyData → DEnv → Prop
  bk : DEnv → Prop := fun _ => False
  ct : DEnv → Prop := fun _ => False
abbrev DS := DEnds → DEnv → Prop
structure Le (E E' : DEnds) : Prop where
  nx : ∀ Γ, E.nx Γ → E'.nx Γ
  rt : ∀ d Γ, E.rt d Γ → E'.rt d Γ
  bk : ∀ Γ, E.bk Γ → E'.bk Γ
  ct : ∀ Γ, E.ct Γ → E'.ct Γ
def MonoS (s : DS) : Prop := ∀ E E' Γ, Le E E' → s E Γ → s E' Γ
def endsOf (K : PySem.W.Frag) (R : Root) (E : Ends) (D : Hp) : DEnds :=
  { nx := fun Γ' => ∀ σ' H' D', Rep K R σ' H' Γ' D' → Same D D' → E.nx σ' H'
    rt := fun d Γ' => ∀ v σ' H' D', Rep K R σ' H' Γ' D' → Same D D' → Dp K D' v d → E.rt v H'
    bk := fun Γ' => ∀ σ' H' D', Rep K R σ' H' Γ' D' → Same D D' → E.bk σ' H'
    ct := fun Γ' => ∀ σ' H' D', Rep K R σ' H' Γ' D' → Same D D' → E.ct σ' H' }
def liftS (K : PySem.W.Frag) (R : Root) (s : DS) : TS := fun E σ H => ∃ Γ D, Rep K R σ H Γ D ∧ s (endsOf K R E D) Γ
structure PDS (X : Cx) (R : Root) (st : Stmt) (s : DS) : Prop where
  ps : PS X st (liftS X.K R s)
  mono : MonoS s
structure PDSs (X : Cx) (R : Root) (st : List Stmt) (s : DS) : Prop where
  pss : PSs X st (liftS X.K R s)
  mono : MonoS s
section
variable {X : Cx} {R : Root} {K : PySem.W.Frag} {σ : L2.St} {H D : Hp} {Γ : DEnv}
theorem ends_le {E : Ends} {D D' : Hp} (s : Same D D') : Le (endsOf K R E D) (endsOf K R E D') :=
  ⟨fun Γ h σ' H' D2 r q => h σ' H' D2 r (s.trans q), fun d Γ h v σ' H' D2 r q => h v σ' H' D2 r (s.trans q), fun Γ h σ' H' D2 r q => h σ' H' D2 r (s.trans q), fun Γ h σ' H' D2 r q => h σ' H' D2 r (s.trans q)⟩
def dNext : DS := fun E Γ => E.nx Γ
theorem pdss_nil : PDSs X R [] dNext := ⟨pss_imp pss_nil fun E σ H ⟨Γ, D, r, h⟩ => h σ H D r (Same.refl _), fun E E' Γ l h => l.nx _ h⟩
def dSeq (s t : DS) : DS := fun E Γ => s { E with nx := t E } Γ
theorem dSeq_mono {s t : DS} (ms : MonoS s) (mt : MonoS t) : MonoS (dSeq s t) := fun E E' Γ l h => ms { E with nx := t E } { E' with nx := t E' } Γ ⟨fun Γ1 q => mt E E' Γ1 l q, l.rt, l.bk, l.ct⟩ h
theorem pdss_cons {st : Stmt} {rest : List Stmt} {s t : DS} (h1 : PDS X R st s) (h2 : PDSs X R rest t) : PDSs X R (st :: rest) (dSeq s t) := by
  refine ⟨pss_imp (pss_cons h1.ps h2.pss) fun E σ H ⟨Γ, D, r, h⟩ => ⟨Γ, D, r, h1.mono { endsOf X.K R E D with nx := t (endsOf X.K R E D) } _ Γ ⟨fun Γ1 q σ' H' D' r' sm => ⟨Γ1, D', r', h2.mono _ _ Γ1 (ends_le sm) q⟩, fun _ _ q => q, fun _ q => q, fun _ q => q⟩ h⟩, dSeq_mono h1.mono h2.mono⟩
theorem pdss_one {st : Stmt} {s : DS} (h1 : PDS X R st s) : PDSs X R [st] s := ⟨pss_one h1.ps, h1.mono⟩
theorem pds_pass {pos : Pos} : PDS X R (.Pass pos) dNext := ⟨ps_imp ps_pass fun E σ H ⟨Γ, D, r, h⟩ => h σ H D r (Same.refl _), fun E E' Γ l h => l.nx _ h⟩
def dBreak : DS := fun E Γ => E.bk Γ
def dCont : DS := fun E Γ => E.ct Γ
theorem pds_break {pos : Pos} : PDS X R (.Break pos) dBreak := ⟨ps_imp ps_break fun E σ H ⟨Γ, D, r, h⟩ => h σ H D r (Same.refl _), fun E E' Γ l h => l.bk _ h⟩
theorem pds_continue {pos : Pos} : PDS X R (.Continue pos) dCont := ⟨ps_imp ps_continue fun E σ H ⟨Γ, D, r, h⟩ => h σ H D r (Same.refl _), fun E E' Γ l h => l.ct _ h⟩
def dRet (a : DE) : DS := fun E Γ => a Γ fun d Γ1 => E.rt d Γ1
theorem dRet_mono {a : DE} (ma : MonoK a) : MonoS (dRet a) := fun E E' Γ l h => ma Γ _ _ (fun d Γ1 q => l.rt d Γ1 q) h
theorem pds_ret {e : Expr} {pos : Pos} {a : DE} (h : PDE X R e a) : PDS X R (.Return (some e) pos) (dRet a) := by
  refine ⟨ps_imp (ps_ret h.pe) fun E σ H ⟨Γ, D, r, q⟩ => ?_, dRet_mono h.mono⟩
  exact goE r h.mono q fun d Γ1 v H1 D1 h1 r1 s1 q1 => h1 v σ H1 D1 r1 s1.d q1
def dRetN : DS := fun E Γ => E.rt .none Γ
theorem pds_retN {pos : Pos} : PDS X R (.Return none pos) dRetN := ⟨ps_imp ps_retN fun E σ H ⟨Γ, D, r, q⟩ => q .non σ H D r (Same.refl _) .non, fun E E' Γ l h => l.rt _ _ h⟩
def dIfS (t : DT) (a b : DS) : DS := fun E Γ => t Γ fun c Γ1 => if c = true then a E Γ1 else b E Γ1
theorem dIfS_mono {t : DT} {a b : DS} (mt : MonoK t) (ma : MonoS a) (mb : MonoS b) : MonoS (dIfS t a b) := fun E E' Γ l h => mt Γ _ _ (fun c Γ1 q => by
  cases c with
  | true => exact ma E E' Γ1 l q
  | false => exact mb E E' Γ1 l q) h
theorem pds_if {c : Expr} {a b : List Stmt} {pos : Pos} {t : DT} {s u : DS} (hc : PDT X R c t) (ha : PDSs X R a s) (hb : PDSs X R b u) : PDS X R (.If c a b pos) (dIfS t s u) := by
  refine ⟨ps_imp (ps_if hc.pt ha.pss hb.pss) fun E σ H ⟨Γ, D, r, q⟩ => ?_, dIfS_mono hc.mono ha.mono hb.mono⟩
  refine goT r hc.mono q fun c Γ1 H1 D1 h1 r1 s1 => ?_
  cases c with
  | true => exact ⟨Γ1, D1, r1, ha.mono _ _ Γ1 (ends_le s1.d) h1⟩
  | false => exact ⟨Γ1, D1, r1, hb.mono _ _ Γ1 (ends_le s1.d) h1⟩
def dAsg (a : DE) (i : Nat) : DS := fun E Γ => a Γ fun d Γ1 => dSet i (Ent.dat d) Γ1 E.nx
theorem dAsg_mono {a : DE} {i : Nat} (ma : MonoK a) : MonoS (dAsg a i) := fun E E' Γ l h => ma Γ _ _ (fun d Γ1 q => dSet_mono l.nx q) h
theorem setD_go {i : Nat} {v : V} {d : PyData} {Q : DEnv → Prop} (r : Rep K R σ H Γ D) (hd : Dp K D v d) (h : dSet i (Ent.dat d) Γ Q) : ∃ Γ', Q Γ' ∧ Rep K R (σ.set i (some v)) H Γ' D := by
  unfold dSet at h
  split at h
  · exact h.elim
  · rename_i c hc e
    exact ⟨_, h, r.setD e (fun ds z => hc ds z) hd⟩
  · exact h.elim
theorem setO_go {i : Nat} {p : Addr} {xs : List V} {ds : List PyData} {Q : DEnv → Prop} (r : Rep K R σ H Γ D) (h0 : R.H0 p = none) (hp : H p = some (.lst xs)) (hD : D p = none) (hm : ¬ Mine σ Γ p) (hd : DpAll K D xs ds) (h : dSet i (Ent.own ds) Γ Q) :
    ∃ Γ', Q Γ' ∧ Rep K R (σ.set i (some (.ref p))) H Γ' D := by
  unfold dSet at h
  split at h
  · exact h.elim
  · rename_i c hc e
    exact ⟨_, h, r.setO e (fun ds z => hc ds z) h0 hp hD hm hd⟩
  · exact h.elim
theorem pds_set {i : Nat} {x : Str} {e : Expr} {a : DE} {pos pos' : Pos} (hN : X.N.Nodup) (he : PDE X R e a) (hi : X.N[i]? = some x := by rfl) (hx : Loc X.env.scope x := by first | exact Or.inl rfl | exact Or.inr rfl) (hs : swapsWith e (some (.Name x pos')) pos.line X.env = pure false := by rfl) (hf : X.fn x = true ∨ X.env.scope.names.lookup x = some .local := by first | exact .inl rfl | exact .inr rfl | assumption) :
    PDS X R (.Assign [.Name x pos'] e pos) (dAsg a i) := by
  refine ⟨ps_imp (ps_set hN hi hx he.pe hs hf) fun E σ H ⟨Γ, D, r, q⟩ => ?_, dAsg_mono he.mono⟩
  refine goE r he.mono q fun d Γ1 v H1 D1 h1 r1 s1 q1 => ?_
  obtain ⟨Γ2, h2, r2⟩ := setD_go r1 q1 h1
  exact h2 _ H1 D1 r2 s1.d
def dAsgO (a : DA) (i : Nat) : DS := fun E Γ => a Γ fun ds Γ1 => dSet i (Ent.own ds) Γ1 E.nx
theorem dAsgO_mono {a : DA} {i : Nat} (ma : MonoK a) : MonoS (dAsgO a i) := fun E E' Γ l h => ma Γ _ _ (fun d Γ1 q => dSet_mono l.nx q) h
theorem pds_setO {i : Nat} {x : Str} {e : Expr} {a : DA} {pos pos' : Pos} (hN : X.N.Nodup) (he : PDL X R e a) (hi : X.N[i]? = some x := by rfl) (hx : Loc X.env.scope x := by first | exact Or.inl rfl | exact Or.inr rfl) (hs : swapsWith e (some (.Name x pos')) pos.line X.env = pure false := by rfl) (hf : X.fn x = true ∨ X.env.scope.names.lookup x = some .local := by first | exact .inl rfl | exact .inr rfl | assumption) :
    PDS X R (.Assign [.Name x pos'] e pos) (dAsgO a i) := by
  refine ⟨ps_imp (ps_set hN hi hx he.pl hs hf) fun E σ H ⟨Γ, D, r, q⟩ => ?_, dAsgO_mono he.mono⟩
  refine goL r he.mono q fun ds Γ1 p xs H1 D1 h1 r1 s1 hp hp1 hD1 nm q1 => ?_
  obtain ⟨Γ2, h2, r2⟩ := setO_go r1 (h0_none r hp) hp1 hD1 nm q1 h1
  exact h2 _ H1 D1 r2 s1.d
def dDrop (a : DE) : DS := fun E Γ => a Γ fun _ Γ1 => E.nx Γ1
theorem pds_expr {e : Expr} {a : DE} {pos : Pos} (he : PDE X R e a) (hs : swapsWith e none pos.line X.env = pure false := by rfl) : PDS X R (.Expr e pos) (dDrop a) := by
  refine ⟨ps_imp (ps_expr he.pe hs) fun E σ H ⟨Γ, D, r, q⟩ => ?_, fun E E' Γ l h => he.mono Γ _ _ (fun d Γ1 q => l.nx _ q) h⟩
  exact goE r he.mono q fun d Γ1 v H1 D1 h1 r1 s1 q1 => h1 σ H1 D1 r1 s1.d


abbrev DG := PyData → DEnv → (DEnv → Prop) → Prop
abbrev DGs := List PyData → DEnv → (DEnv → Prop) → Prop
structure Off (js : List Nat) (σ : L2.St) (Γ : DEnv) (σ' : L2.St) (Γ' : DEnv) : Prop where
  len : σ'.length = σ.length
  slots : ∀ i : Nat, i ∉ js → σ'[i]? = σ[i]?
  mine : ∀ a, Mine σ' Γ' a → Mine σ Γ a
theorem Off.refl {js : List Nat} : Off js σ Γ σ Γ := ⟨rfl, fun _ _ => rfl, fun _ h => h⟩
theorem Off.trans {js js' : List Nat} {σ1 σ2 : L2.St} {Γ1 Γ2 : DEnv} (a : Off js σ Γ σ1 Γ1) (b : Off js' σ1 Γ1 σ2 Γ2) : Off (js ++ js') σ Γ σ2 Γ2 :=
  ⟨b.len.trans a.len, fun i h => (b.slots i fun z => h (List.mem_append_right _ z)).trans (a.slots i fun z => h (List.mem_append_left _ z)), fun x h => a.mine x (b.mine x h)⟩
def liftG (K : PySem.W.Frag) (R : Root) (js : List Nat) (g : DG) : TG := fun v σ H Q => ∃ Γ D d, Rep K R σ H Γ D ∧ Dp K D v d ∧ g d Γ fun Γ' => ∀ σ', Rep K R σ' H Γ' D → Off js σ Γ σ' Γ' → Q σ' H
def liftGs (K : PySem.W.Frag) (R : Root) (js : List Nat) (g : DGs) : TGs := fun vs σ H Q => ∃ Γ D ds, Rep K R σ H Γ D ∧ DpAll K D vs ds ∧ g ds Γ fun Γ' => ∀ σ', Rep K R σ' H Γ' D → Off js σ Γ σ' Γ' → Q σ' H
def MonoG {α : Type} (g : α → DEnv → (DEnv → Prop) → Prop) : Prop := ∀ d Γ (Q Q' : DEnv → Prop), (∀ Γ, Q Γ → Q' Γ) → g d Γ Q → g d Γ Q'
structure PDG (X : Cx) (R : Root) (js : List Nat) (tg : Expr) (g : DG) : Prop where
  pg : PG X tg (liftG X.K R js g)
  mono : MonoG g
structure PDGs (X : Cx) (R : Root) (js : List Nat) (tg : List Expr) (g : DGs) : Prop where
  pgs : PGs X tg (liftGs X.K R js g)
  mono : MonoG g
theorem pg_imp {tg : Expr} {t u : TG} (h : PG X tg t) (i : ∀ v σ H Q, u v σ H Q → t v σ H Q) : PG X tg u := ⟨fun pins s σ H v w Q I r q => h.run pins s σ H v w Q I r (i v σ H Q q)⟩
theorem pgs_imp {tg : List Expr} {t u : TGs} (h : PGs X tg t) (i : ∀ v σ H Q, u v σ H Q → t v σ H Q) : PGs X tg u := ⟨fun pins s σ H v w Q I r q => h.run pins s σ H v w Q I r (i v σ H Q q)⟩
theorem mine_set {i : Nat} {v : V} {d : PyData} {a : Addr} (h : Mine (σ.set i (some v)) (Γ.set i (some (Ent.dat d))) a) : Mine σ Γ a := by
  obtain ⟨j, e1, e2⟩ := h
  by_cases n : j = i
  · subst n
    by_cases hl : j < Γ.length
    · rw [List.getElem?_set_self hl] at e2
      rcases e2 with ⟨_, z⟩ | ⟨_, z⟩ <;> cases z
    · rw [List.getElem?_eq_none (by rw [List.length_set]; omega)] at e2
      rcases e2 with ⟨_, z⟩ | ⟨_, z⟩ <;> cases z
  · rw [List.getElem?_set_ne (Ne.symm n)] at e1 e2
    exact ⟨j, e1, e2⟩
def dgName (i : Nat) : DG := fun d Γ Q => dSet i (Ent.dat d) Γ Q
theorem setD_off {i : Nat} {v : V} {d : PyData} {Q : DEnv → Prop} (r : Rep K R σ H Γ D) (hd : Dp K D v d) (h : dSet i (Ent.dat d) Γ Q) : ∃ Γ', Q Γ' ∧ Rep K R (σ.set i (some v)) H Γ' D ∧ Off [i] σ Γ (σ.set i (some v)) Γ' := by
  unfold dSet at h
  split at h
  · exact h.elim
  · rename_i c hc e
    exact ⟨_, h, r.setD e (fun ds z => hc ds z) hd, List.length_set, fun j n => List.getElem?_set_ne (fun z => n (by simp [z])), fun a m => mine_set m⟩
  · exact h.elim
theorem pdg_name (i : Nat) {x : Str} {pos : Pos} (hN : X.N.Nodup) (hi : X.N[i]? = some x := by rfl) (hx : Loc X.env.scope x := by first | exact Or.inl rfl | exact Or.inr rfl) (hf : X.fn x = true ∨ X.env.scope.names.lookup x = some .local := by first | exact .inl rfl | exact .inr rfl | assumption) : PDG X R [i] (.Name x pos) (dgName i) := by
  refine ⟨pg_imp (pg_name hN hi hx hf) fun v σ H Q ⟨Γ, D, d, r, hd, h⟩ => ?_, fun d Γ Q Q' m h => dSet_mono m h⟩
  obtain ⟨Γ2, h2, r2, o⟩ := setD_off r hd h
  exact h2 _ r2 o
def dgNil : DGs := fun ds Γ Q => ds = [] ∧ Q Γ
def dgCons (g : DG) (gs : DGs) : DGs := fun ds Γ Q => match ds with | [] => False | d :: r => g d Γ fun Γ1 => gs r Γ1 Q
theorem pdgs_nil : PDGs X R [] [] dgNil := by
  refine ⟨pgs_imp pgs_nil fun v σ H Q ⟨Γ, D, ds, r, hd, e, h⟩ => ?_, fun d Γ Q Q' m h => ⟨h.1, m _ h.2⟩⟩
  subst e
  cases hd
  exact ⟨rfl, h σ r Off.refl⟩
theorem pdgs_cons {e : Expr} {es : List Expr} {js js' : List Nat} {g : DG} {gs : DGs} (h1 : PDG X R js e g) (h2 : PDGs X R js' es gs) (hs : (assignEach (e :: es) X.env).map (·.2) = assign e X.env :: (assignEach es X.env).map (·.2) := by rfl) : PDGs X R (js ++ js') (e :: es) (dgCons g gs) := by
  refine ⟨pgs_imp (pgs_cons h1.pg h2.pgs hs) fun v σ H Q ⟨Γ, D, ds, r, hd, h⟩ => ?_, fun d Γ Q Q' m h => ?_⟩
  · cases hd with
    | nil => exact h.elim
    | cons a b => exact ⟨_, _, rfl, Γ, D, _, r, a, h1.mono _ Γ _ _ (fun Γ1 q σ' r' o => ⟨Γ1, D, _, r', b, h2.mono _ Γ1 _ _ (fun Γ2 q2 σ2 r2 o2 => q2 σ2 r2 (o.trans o2)) q⟩) h⟩
  · cases d with
    | nil => exact h
    | cons a b => exact h1.mono a Γ _ _ (fun Γ1 q => h2.mono b Γ1 _ _ m q) h
def dgTup (n : Nat) (gs : DGs) : DG := fun d Γ Q => match d with | .tuple ds => ds.length = n ∧ gs ds Γ Q | _ => False
theorem pdg_tup {es : List Expr} {js : List Nat} {k : Nat} {pos : Pos} {gs : DGs} {n : Nat} (hc : X.calm = true) (h : PDGs X R js es gs) (hn : (assignEach es X.env).length = n := by rfl) (hst : (assignEach es X.env).findIdx? (·.1) = none := by rfl) : PDG X R js (.Tuple es k pos) (dgTup n gs) := by
  refine ⟨pg_imp (pg_tup hc h.pgs hn hst) fun v σ H Q ⟨Γ, D, d, r, hd, q⟩ => ?_, fun d Γ Q Q' m q => ?_⟩
  · cases hd with
    | tup s a => exact ⟨_, _, rfl, sqT_mono (fun b o e => r.sub b o e) s, by rw [dpAll_len a]; exact q.1, Γ, D, _, r, a, q.2⟩
    | non => exact q.elim
    | bl _ => exact q.elim
    | int _ => exact q.elim
    | str _ => exact q.elim
    | lst _ _ => exact q.elim
  · cases d <;> first | exact ⟨q.1, h.mono _ Γ _ _ m q.2⟩ | exact q
def dAsgG (a : DE) (g : DG) : DS := fun E Γ => a Γ fun d Γ1 => g d Γ1 E.nx
theorem pds_asg {tg e : Expr} {pos : Pos} {a : DE} {g : DG} {js : List Nat} (he : PDE X R e a) (hg : PDG X R js tg g) (hs : swapsWithSole [tg] e pos.line X.env = pure false := by rfl) (hw : swappedStores [tg] e X.env = pure none := by rfl)
    (h1 : (assignEach [tg] X.env).map (·.2) = [assign tg X.env] := by rfl) : PDS X R (.Assign [tg] e pos) (dAsgG a g) := by
  refine ⟨ps_imp (ps_asg he.pe hg.pg hs hw h1) fun E σ H ⟨Γ, D, r, q⟩ => ?_, fun E E' Γ l h => he.mono Γ _ _ (fun d Γ1 q => hg.mono d Γ1 _ _ l.nx q) h⟩
  refine goE r he.mono q fun d Γ1 v H1 D1 h1 r1 s1 q1 => ?_
  exact ⟨Γ1, D1, d, r1, q1, hg.mono d Γ1 _ _ (fun Γ2 q2 σ' r2 _ => q2 σ' H1 D1 r2 s1.d) h1⟩
end
end DL

set_option Elab.async false
set_option linter.all false
set_option maxRecDepth 100000
namespace DL
open PySem PySem.Spec PyProof.Rows L2


structure ItD (K : PySem.W.Frag) (J : It) (D : Hp) (ds : List PyData) : Prop where
  go : ∀ (i : Nat) (H D1 : Hp), Same D D1 → Sub D1 H → i < ds.length → J.go i H
  stop : ∀ (H D1 : Hp), Same D D1 → Sub D1 H → J.stop ds.length H
  yld : ∀ (i : Nat) (H D1 : Hp) (x : V) (H' : Hp), Same D D1 → Sub D1 H → i < ds.length → J.yld i H x H' → ∃ D2 d, Grow D1 H D2 H' ∧ ds[i]? = some d ∧ Dp K D2 x d
abbrev DI := DEnv → (List PyData → DEnv → Prop) → Prop
def liftI (K : PySem.W.Frag) (R : Root) (di : DI) : TI := fun σ H RR => ∃ Γ D, Rep K R σ H Γ D ∧ di Γ fun ds Γ' => ∀ J H' D', Rep K R σ H' Γ' D' → Step σ Γ D H Γ' D' H' → ItD K J D' ds → RR J H'
structure PDI (X : Cx) (R : Root) (tg iter : Expr) (di : DI) : Prop where
  pi : PI X tg iter (liftI X.K R di)
  mono : MonoK di
section
variable {X : Cx} {R : Root} {K : PySem.W.Frag} {σ : L2.St} {H D : Hp} {Γ : DEnv}
theorem pi_imp {tg iter : Expr} {t u : TI} (h : PI X tg iter t) (i : ∀ σ H Q, u σ H Q → t σ H Q) : PI X tg iter u := ⟨fun pins s σ H Q I q => h.run pins s σ H Q I (i σ H Q q)⟩
theorem goI {di : DI} {Q : It → Hp → Prop} {W : List PyData → DEnv → Prop} (r : Rep K R σ H Γ D) (m : MonoK di) (h : di Γ W)
    (k : ∀ ds Γ' J H' D', W ds Γ' → Rep K R σ H' Γ' D' → Step σ Γ D H Γ' D' H' → ItD K J D' ds → Q J H') : liftI K R di σ H Q :=
  ⟨Γ, D, r, m Γ _ _ (fun ds Γ' w J H' D' r' st q => k ds Γ' J H' D' w r' st q) h⟩
theorem same_sub {D1 : Hp} (s : Same D D1) (u : Sub D1 H) : Sub D H := fun a o h => u a o (s a o h)
theorem itd_list {a : Addr} {xs : List V} {ds : List PyData} (h : SqX K D a xs) (hd : DpAll K D xs ds) : ItD K (Itl K a) D ds := by
  have el := dpAll_len hd
  refine ⟨fun i H D1 s u hi => ?_, fun H D1 s u => ⟨xs, sqL_mono (same_sub s u) h, by omega⟩, fun i H D1 x H' s u hi y => ?_⟩
  · exact ⟨xs, xs[i], sqL_mono (same_sub s u) h, List.getElem?_eq_getElem (by omega)⟩
  · obtain ⟨e, y⟩ := y
    subst e
    obtain ⟨d, e1, e2⟩ := dpAll_getV hd (y xs (sqL_mono (same_sub s u) h))
    exact ⟨D1, d, Grow.refl u, e1, dp_mono s e2⟩
theorem itd_tup {a : Addr} {xs : List V} {ds : List PyData} (h : SqT K D a xs) (hd : DpAll K D xs ds) : ItD K (Itt K a) D ds := by
  have el := dpAll_len hd
  refine ⟨fun i H D1 s u hi => ?_, fun H D1 s u => ⟨xs, sqT_mono (same_sub s u) h, by omega⟩, fun i H D1 x H' s u hi y => ?_⟩
  · exact ⟨xs, xs[i], sqT_mono (same_sub s u) h, List.getElem?_eq_getElem (by omega)⟩
  · obtain ⟨e, y⟩ := y
    subst e
    obtain ⟨d, e1, e2⟩ := dpAll_getV hd (y xs (sqT_mono (same_sub s u) h))
    exact ⟨D1, d, Grow.refl u, e1, dp_mono s e2⟩
def signs (x : Str) : List PyData := x.cps.toList.map fun c => .str ⟨#[c]⟩
theorem itd_str {x : Str} : ItD K (Its x) D (signs x) := by
  have el : (signs x).length = x.cps.size := by simp [signs]
  refine ⟨fun i H D1 s u hi => by show i < x.cps.size; omega, fun H D1 s u => by show x.cps.size ≤ (signs x).length; omega, fun i H D1 v H' s u hi y => ?_⟩
  obtain ⟨e, c, hc, e2⟩ := y
  subst e e2
  refine ⟨D1, .str ⟨#[c]⟩, Grow.refl u, ?_, .str _⟩
  unfold signs
  rw [List.getElem?_map, Array.getElem?_toList, hc]
  rfl
def dSeqOf (a : DE) : DI := fun Γ Q => a Γ fun d Γ1 => match d with | .list ds => Q ds Γ1 | .tuple ds => Q ds Γ1 | .str x => Q (signs x) Γ1 | _ => False
theorem dSeqOf_mono {a : DE} (ma : MonoK a) : MonoK (dSeqOf a) := fun Γ W W' m h => ma Γ _ _ (fun d Γ1 q => by cases d <;> first | exact m _ _ q | exact q) h
theorem pdi_list {tg e : Expr} {a : DE} (h : PDE X R e a) : PDI X R tg e (dSeqOf a) := by
  have hl := pi_list (tg := tg) h.pe
  have ht := pi_tup (tg := tg) h.pe
  have hs := pi_str (tg := tg) h.pe
  refine ⟨⟨fun pins s σ H RR I q => ?_⟩, dSeqOf_mono h.mono⟩
  obtain ⟨Γ, D, r, q⟩ := q
  -- one reading, three walks
  refine thn (h.pe.run pins s σ H (fun v H1 => ∃ J : It → Hp → Prop, J = RR ∧ ((∃ a, v = .ref a ∧ (∃ xs, SqL X.K H1 a xs) ∧ RR (Itl X.K a) H1) ∨ (∃ a, v = .ref a ∧ (∃ xs, SqT X.K H1 a xs) ∧ RR (Itt X.K a) H1) ∨ ∃ x, v = .str x ∧ RR (Its x) H1)) I (goE r h.mono q fun d Γ1 v H1 D1 h1 r1 s1 q1 => ?_)) fun v s1 hv => ?_
  · refine ⟨RR, rfl, ?_⟩
    cases q1 with
    | lst sq al => exact .inl ⟨_, rfl, ⟨_, sqL_mono r1.sub sq⟩, h1 _ _ D1 r1 s1 (itd_list sq al)⟩
    | tup sq al => exact .inr (.inl ⟨_, rfl, ⟨_, sqT_mono r1.sub sq⟩, h1 _ _ D1 r1 s1 (itd_tup sq al)⟩)
    | str x => exact .inr (.inr ⟨x, rfl, h1 _ _ D1 r1 s1 itd_str⟩)
    | non => exact h1.elim
    | bl _ => exact h1.elim
    | int _ => exact h1.elim
  · obtain ⟨x, H1, I1, r1, J, rfl, q1⟩ := hv
    have done : ∀ (y : V), RelV y v → PE X e (fun σ' H' Q' => Q' y H1 ∧ False) → True := fun _ _ _ => trivial
    rcases q1 with ⟨a, e1, ⟨xs, hq⟩, q2⟩ | ⟨a, e1, ⟨xs, hq⟩, q2⟩ | ⟨x', e1, q2⟩
    · subst e1
      cases r1
      obtain ⟨its, rv, p, hz⟩ := I1.list hq -- k09
      refine wpAny_pyIter_list p.isList ?_ -- k09
      refine ⟨s1.heap.objs.size, [s1.heap.objs.size], _, _, H1, rfl, I1.kept (t' := s1.toks) fun b o e => Heap.get?_push_of_some _ e, turn_list a _, ⟨_, Heap.get?_push_size _ rfl, rfl, rfl⟩, fun b hb => ?_, q2⟩
      obtain rfl : b = s1.heap.objs.size := by simpa using hb
      exact I1.fpOk (Nat.le_refl _) (I1.hok.fresh (Nat.le_refl _)) -- k09
    · subst e1
      cases r1
      obtain ⟨its, rv, p, hz⟩ := I1.tuple hq -- k09
      refine wpAny_pyIter_tuple (show s1.heap.IsTuple a its.toArray from p) ?_ -- k09
      refine ⟨s1.heap.objs.size, [s1.heap.objs.size], _, _, H1, rfl, I1.kept (t' := s1.toks) fun b o e => Heap.get?_push_of_some _ e, turn_tuple a _, ⟨_, Heap.get?_push_size _ rfl, rfl, rfl⟩, fun b hb => ?_, q2⟩
      obtain rfl : b = s1.heap.objs.size := by simpa using hb
      exact I1.fpOk (Nat.le_refl _) (I1.hok.fresh (Nat.le_refl _)) -- k09
    · subst e1
      obtain ⟨t, rfl⟩ := r1
      cases ha : x'.cps.all (· < 128)
      · exact wpAny_pyIter_wide ha (pi_one (tk := s1.toks) I1 _ (turn_str _ x' t "str_iterator" (.inr rfl)) ⟨_, Heap.get?_push_size _ rfl, rfl, rfl⟩ q2)
      · exact wpAny_pyIter_ascii ha (pi_one (tk := s1.toks) I1 _ (turn_str _ x' t "str_ascii_iterator" (.inl rfl)) ⟨_, Heap.get?_push_size _ rfl, rfl, rfl⟩ q2)
def upto (lo : Int) (n : Nat) : List PyData := (List.range n).map fun i => .int (lo + (i : Nat))
theorem upto_len (lo : Int) (n : Nat) : (upto lo n).length = n := by simp [upto]
theorem upto_get {lo : Int} {n i : Nat} (h : i < n) : (upto lo n)[i]? = some (.int (lo + (i : Nat))) := by
  unfold upto
  rw [List.getElem?_map, List.getElem?_range h]
  rfl
theorem itd_rng {lo : Int} {n : Nat} : ItD K (Itr lo n) D (upto lo n) := by
  refine ⟨fun i H D1 s u hi => by rw [upto_len] at hi; exact hi, fun H D1 s u => by rw [upto_len]; exact Nat.le_refl _, fun i H D1 x H' s u hi y => ?_⟩
  obtain ⟨e, e2⟩ := y
  subst e e2
  rw [upto_len] at hi
  exact ⟨D1, _, Grow.refl u, upto_get hi, .int _⟩
def dRange1 (a : DA) : DI := fun Γ Q => a Γ fun ds Γ1 => match ds with | [.int j] => -(2 ^ 62) ≤ j ∧ j < 2 ^ 62 ∧ Q (upto 0 j.toNat) Γ1 | _ => False
theorem dRange1_mono {a : DA} (ma : MonoK a) : MonoK (dRange1 a) := fun Γ W W' m h => ma Γ _ _ (fun ds Γ1 q => by
  split at q
  · exact ⟨q.1, q.2.1, m _ _ q.2.2⟩
  · exact q) h
theorem pdi_range1 {tg e : Expr} {p pos : Pos} {a : DA} (hg : Gl X "range") (hm : X.mg "range" = none) (ha : PDA X R [e] a) (hs : starEach [e] X.env = [(false, eval e X.env)] := by rfl) : PDI X R tg (.Call (.Name "range" p) [e] [] pos) (dRange1 a) := by
  refine ⟨pi_imp (pi_range1 hg hm ha.pa hs) fun σ H RR ⟨Γ, D, r, q⟩ => ?_, dRange1_mono ha.mono⟩
  refine goA r ha.mono q fun ds Γ1 vs H1 D1 h1 r1 s1 q1 => ?_
  split at h1
  · rename_i j
    cases q1 with
    | cons x y =>
      cases x
      cases y
      exact ⟨j, rfl, h1.1, h1.2.1, h1.2.2 _ H1 D1 r1 s1 itd_rng⟩
  · exact h1.elim
def dRange2 (a : DA) : DI := fun Γ Q => a Γ fun ds Γ1 => match ds with | [.int i, .int j] => (-(2 ^ 62) ≤ i ∧ i < 2 ^ 62 ∧ -(2 ^ 62) ≤ j ∧ j < 2 ^ 62) ∧ Q (upto i (j - i).toNat) Γ1 | _ => False
theorem dRange2_mono {a : DA} (ma : MonoK a) : MonoK (dRange2 a) := fun Γ W W' m h => ma Γ _ _ (fun ds Γ1 q => by
  split at q
  · exact ⟨q.1, m _ _ q.2⟩
  · exact q) h
theorem pdi_range2 {tg e e2 : Expr} {p pos : Pos} {a : DA} (hg : Gl X "range") (hm : X.mg "range" = none) (ha : PDA X R [e, e2] a) (hs : starEach [e, e2] X.env = [(false, eval e X.env), (false, eval e2 X.env)] := by rfl) (hs2 : starEach [e2] X.env = [(false, eval e2 X.env)] := by rfl) :
    PDI X R tg (.Call (.Name "range" p) [e, e2] [] pos) (dRange2 a) := by
  refine ⟨pi_imp (pi_range2 hg hm ha.pa hs hs2) fun σ H RR ⟨Γ, D, r, q⟩ => ?_, dRange2_mono ha.mono⟩
  refine goA r ha.mono q fun ds Γ1 vs H1 D1 h1 r1 s1 q1 => ?_
  split at h1
  · rename_i i j
    cases q1 with
    | cons x y =>
      cases x
      cases y with
      | cons x y =>
        cases x
        cases y
        exact ⟨i, j, rfl, h1.1, h1.2 _ H1 D1 r1 s1 itd_rng⟩
  · exact h1.elim
def enums (ds : List PyData) : List PyData := (List.range ds.length).map fun i => .tuple [.int (i : Nat), ds.getD i .none]
theorem enums_len (ds : List PyData) : (enums ds).length = ds.length := by simp [enums]
theorem upd_pair {p : Addr} {x y : V} {d e : PyData} (u : Sub D H) (hp : H p = none) (h1 : Dp K D x d) (h2 : Dp K D y e) : Grow D H (upd D p (.tup [x, y])) (upd H p (.tup [x, y])) ∧ Dp K (upd D p (.tup [x, y])) (.ref p) (.tuple [d, e]) := by
  have g := Grow.upd (o := .tup [x, y]) u hp
  exact ⟨g, .tup (SqT.of upd_same) (.cons (dp_mono g.d h1) (.cons (dp_mono g.d h2) .nil))⟩
theorem itd_enum {a : Addr} {xs : List V} {ds : List PyData} (h : SqX K D a xs) (hd : DpAll K D xs ds) : ItD K (Ite K a) D (enums ds) := by
  have el := dpAll_len hd
  refine ⟨fun i H D1 s u hi => ?_, fun H D1 s u => ⟨xs, sqL_mono (same_sub s u) h, by rw [enums_len]; omega⟩, fun i H D1 x H' s u hi y => ?_⟩
  · rw [enums_len] at hi
    exact ⟨xs, xs[i], sqL_mono (same_sub s u) h, List.getElem?_eq_getElem (by omega)⟩
  · rw [enums_len] at hi
    obtain ⟨T, z, e1, e2, e3, y⟩ := y
    subst e1 e3
    obtain ⟨d, f1, f2⟩ := dpAll_getV hd (y xs (sqL_mono (same_sub s u) h))
    obtain ⟨g, q⟩ := upd_pair (K := K) u e2 (.int (i : Nat)) (dp_mono s f2)
    refine ⟨_, _, g, ?_, q⟩
    unfold enums
    rw [List.getElem?_map, List.getElem?_range hi]
    show some (PyData.tuple [.int (i : Nat), ds.getD i .none]) = _
    rw [List.getD_eq_getElem?_getD, f1]
    rfl
def dEnum (a : DA) : DI := fun Γ Q => a Γ fun ds Γ1 => match ds with | [.list es] => Q (enums es) Γ1 | _ => False
theorem dEnum_mono {a : DA} (ma : MonoK a) : MonoK (dEnum a) := fun Γ W W' m h => ma Γ _ _ (fun ds Γ1 q => by
  split at q
  · exact m _ _ q
  · exact q) h
theorem pdi_enum {e : Expr} {p pos tpos : Pos} {elts : List Expr} {kk : Nat} {a : DA} (hg : Gl X "enumerate") (hm : X.mg "enumerate" = none) (ha : PDA X R [e] a) (hs : starEach [e] X.env = [(false, eval e X.env)] := by rfl) : PDI X R (.Tuple elts kk tpos) (.Call (.Name "enumerate" p) [e] [] pos) (dEnum a) := by
  refine ⟨pi_imp (pi_enum hg hm ha.pa hs) fun σ H RR ⟨Γ, D, r, q⟩ => ?_, dEnum_mono ha.mono⟩
  refine goA r ha.mono q fun ds Γ1 vs H1 D1 h1 r1 s1 q1 => ?_
  split at h1
  · cases q1 with
    | cons x y =>
      cases y
      cases x with
      | lst sq al => exact ⟨_, _, rfl, sqL_mono r1.sub sq, h1 _ H1 D1 r1 s1 (itd_enum sq al)⟩
  · exact h1.elim
def zips (ds es : List PyData) : List PyData := List.zipWith (fun d e => .tuple [d, e]) ds es
theorem zips_get {ds es : List PyData} {i : Nat} {d e : PyData} (h1 : ds[i]? = some d) (h2 : es[i]? = some e) : (zips ds es)[i]? = some (.tuple [d, e]) := by
  unfold zips
  rw [List.getElem?_zipWith, h1, h2]
theorem zips_len (ds es : List PyData) : (zips ds es).length = min ds.length es.length := by simp [zips]
theorem itd_zipT {a b : Addr} {xs ys : List V} {ds es : List PyData} (h : SqT K D a xs) (hd : DpAll K D xs ds) (h' : SqT K D b ys) (he : DpAll K D ys es) : ItD K (RZ.ItzT K a b) D (zips ds es) := by
  have el := dpAll_len hd
  have el' := dpAll_len he
  refine ⟨fun i H D1 s u hi => ?_, fun H D1 s u => ⟨xs, ys, sqT_mono (same_sub s u) h, sqT_mono (same_sub s u) h', by rw [zips_len]; omega⟩, fun i H D1 x H' s u hi y => ?_⟩
  · rw [zips_len] at hi
    exact ⟨xs, ys, xs[i], ys[i], sqT_mono (same_sub s u) h, sqT_mono (same_sub s u) h', List.getElem?_eq_getElem (by omega), List.getElem?_eq_getElem (by omega)⟩
  · obtain ⟨T, z, z', e1, e2, e3, y1, y2⟩ := y
    subst e1 e3
    obtain ⟨d, f1, f2⟩ := dpAll_getV hd (y1 xs (sqT_mono (same_sub s u) h))
    obtain ⟨d', f1', f2'⟩ := dpAll_getV he (y2 ys (sqT_mono (same_sub s u) h'))
    obtain ⟨g, q⟩ := upd_pair (K := K) u e2 (dp_mono s f2) (dp_mono s f2')
    exact ⟨_, _, g, zips_get f1 f1', q⟩
theorem itd_zipL {a b : Addr} {xs ys : List V} {ds es : List PyData} (h : SqX K D a xs) (hd : DpAll K D xs ds) (h' : SqX K D b ys) (he : DpAll K D ys es) : ItD K (Itz K a b) D (zips ds es) := by
  have el := dpAll_len hd
  have el' := dpAll_len he
  refine ⟨fun i H D1 s u hi => ?_, fun H D1 s u => ⟨xs, ys, sqL_mono (same_sub s u) h, sqL_mono (same_sub s u) h', by rw [zips_len]; omega⟩, fun i H D1 x H' s u hi y => ?_⟩
  · rw [zips_len] at hi
    exact ⟨xs, ys, xs[i], ys[i], sqL_mono (same_sub s u) h, sqL_mono (same_sub s u) h', List.getElem?_eq_getElem (by omega), List.getElem?_eq_getElem (by omega)⟩
  · obtain ⟨T, z, z', e1, e2, e3, y1, y2⟩ := y
    subst e1 e3
    obtain ⟨d, f1, f2⟩ := dpAll_getV hd (y1 xs (sqL_mono (same_sub s u) h))
    obtain ⟨d', f1', f2'⟩ := dpAll_getV he (y2 ys (sqL_mono (same_sub s u) h'))
    obtain ⟨g, q⟩ := upd_pair (K := K) u e2 (dp_mono s f2) (dp_mono s f2')
    exact ⟨_, _, g, zips_get f1 f1', q⟩
def dZip (a : DA) : DI := fun Γ Q => a Γ fun ds Γ1 => match ds with | [.list xs, .list ys] => Q (zips xs ys) Γ1 | [.tuple xs, .tuple ys] => Q (zips xs ys) Γ1 | _ => False
theorem dZip_mono {a : DA} (ma : MonoK a) : MonoK (dZip a) := fun Γ W W' m h => ma Γ _ _ (fun ds Γ1 q => by
  split at q
  · exact m _ _ q
  · exact m _ _ q
  · exact q) h
theorem pdi_zip {e e2 : Expr} {p pos tpos : Pos} {elts : List Expr} {kk : Nat} {a : DA} (hg : Gl X "zip") (hm : X.mg "zip" = none) (ha : PDA X R [e, e2] a) (hs : starEach [e, e2] X.env = (false, eval e X.env) :: starEach [e2] X.env := by rfl) (hpl : (backTo pos (starEach [e2] X.env)).any (·.1) = false := by rfl) :
    PDI X R (.Tuple elts kk tpos) (.Call (.Name "zip" p) [e, e2] [] pos) (dZip a) := by
  refine ⟨pi_imp (RZ.pi_zipA hg hm ha.pa hs hpl) fun σ H RR ⟨Γ, D, r, q⟩ => ?_, dZip_mono ha.mono⟩
  refine goA r ha.mono q fun ds Γ1 vs H1 D1 h1 r1 s1 q1 => ?_
  split at h1
  · cases q1 with
    | cons x y =>
      cases y with
      | cons x' y =>
        cases y
        cases x with
        | lst sq al =>
          cases x' with
          | lst sq' al' => exact ⟨_, _, _, _, rfl, .inl ⟨sqL_mono r1.sub sq, sqL_mono r1.sub sq', h1 _ H1 D1 r1 s1 (itd_zipL sq al sq' al')⟩⟩
  · cases q1 with
    | cons x y =>
      cases y with
      | cons x' y =>
        cases y
        cases x with
        | tup sq al =>
          cases x' with
          | tup sq' al' => exact ⟨_, _, _, _, rfl, .inr ⟨sqT_mono r1.sub sq, sqT_mono r1.sub sq', h1 _ H1 D1 r1 s1 (itd_zipT sq al sq' al')⟩⟩
  · exact h1.elim


def dFor (di : DI) (g : DG) (b : DS) : DS := fun E Γ => di Γ fun ds Γ1 => ∃ Pv : Nat → DEnv → Prop, Pv 0 Γ1 ∧ (∀ i d Γ', ds[i]? = some d → Pv i Γ' → g d Γ' fun Γ2 => b { E with nx := Pv (i + 1), ct := Pv (i + 1), bk := E.nx } Γ2) ∧ ∀ Γ', Pv ds.length Γ' → E.nx Γ'
theorem dFor_mono {di : DI} {g : DG} {b : DS} (mi : MonoK di) (mg : MonoG g) (mb : MonoS b) : MonoS (dFor di g b) := fun E E' Γ l h => mi Γ _ _ (fun ds Γ1 q => by
  obtain ⟨Pv, p0, ps, pd⟩ := q
  exact ⟨Pv, p0, fun i d Γ' e p => mg d Γ' _ _ (fun Γ2 q => mb { E with nx := Pv (i + 1), ct := Pv (i + 1), bk := E.nx } { E' with nx := Pv (i + 1), ct := Pv (i + 1), bk := E'.nx } Γ2 ⟨fun _ q => q, l.rt, fun _ q => l.nx _ q, fun _ q => q⟩ q) (ps i d Γ' e p), fun Γ' p => l.nx _ (pd Γ' p)⟩) h
theorem pds_for {tg iter : Expr} {body : List Stmt} {di : DI} {g : DG} {js : List Nat} {b : DS} {pos : Pos} (hp : PassesOwn (model X.prog X.w) X.A X.env X.xe) (hc : X.calm = true) (hi : PDI X R tg iter di) (hg : PDG X R js tg g) (hb : PDSs X R body b)
    (hs : ∀ x, foldedSetIterable iter X.env x = pure x := by intro _; rfl) : PDS X R (.For tg iter body [] pos) (dFor di g b) := by
  refine ⟨ps_imp (ps_for hp hc hi.pi hg.pg hb.pss hs) fun E σ H ⟨Γ, D, r, q⟩ => ?_, dFor_mono hi.mono hg.mono hb.mono⟩
  refine goI r hi.mono q fun ds Γ1 J H1 D1 h1 r1 s1 it => ?_
  obtain ⟨Pv, p0, ps, pd⟩ := h1
  refine ⟨fun i m σ' H' => m = ds.length - i ∧ i ≤ ds.length ∧ ∃ Γ' D', Rep X.K R σ' H' Γ' D' ∧ Same D1 D' ∧ Pv i Γ', ⟨ds.length, by simp, Nat.zero_le _, Γ1, D1, r1, Same.refl _, p0⟩, ?_⟩
  rintro i m σ' H' ⟨rfl, hi', Γ', D', r', sm, p⟩
  by_cases hlt : i < ds.length
  · refine .inr ⟨it.go i H' D' sm r'.sub hlt, fun σ2 H2 => ∃ Γ2 D2, Rep X.K R σ2 H2 Γ2 D2 ∧ Same D1 D2 ∧ Pv (i + 1) Γ2, fun σ2 H2 ⟨Γ2, D2, r2, sm2, p2⟩ => ⟨ds.length - (i + 1), by omega, rfl, hlt, Γ2, D2, r2, sm2, p2⟩, fun x H2 y => ?_⟩
    obtain ⟨D2, d, g2, ed, dp⟩ := it.yld i H' D' x H2 sm r'.sub hlt y
    have r2 := r'.grow g2
    refine ⟨Γ', D2, d, r2, dp, hg.mono d Γ' _ _ (fun Γ3 q3 σ3 r3 _ => ⟨Γ3, D2, r3, hb.mono { endsOf X.K R E D with nx := Pv (i + 1), ct := Pv (i + 1), bk := (endsOf X.K R E D).nx } _ Γ3 ⟨fun Γ4 p4 σ4 H4 D4 r4 sm4 => ⟨Γ4, D4, r4, (sm.trans g2.d).trans sm4, p4⟩, fun d4 Γ4 q4 v4 σ4 H4 D4 r4 sm4 dp4 => q4 v4 σ4 H4 D4 r4 (s1.d.trans ((sm.trans g2.d).trans sm4)) dp4,
      fun Γ4 q4 σ4 H4 D4 r4 sm4 => q4 σ4 H4 D4 r4 (s1.d.trans ((sm.trans g2.d).trans sm4)), fun Γ4 p4 σ4 H4 D4 r4 sm4 => ⟨Γ4, D4, r4, (sm.trans g2.d).trans sm4, p4⟩⟩ q3⟩) (ps i d Γ' ed p)⟩
  · have e : i = ds.length := by omega
    subst e
    exact .inl ⟨it.stop H' D' sm r'.sub, pd Γ' p σ' H' D' r' (s1.d.trans sm)⟩
def dWhile (t : DT) (b : DS) : DS := fun E Γ => ∃ W : Nat → DEnv → Prop, (∃ m, W m Γ) ∧ ∀ m Γ', W m Γ' → t Γ' fun c Γ1 => if c = true then b { E with nx := fun Γ2 => ∃ m', m' < m ∧ W m' Γ2, ct := fun Γ2 => ∃ m', m' < m ∧ W m' Γ2, bk := E.nx } Γ1 else E.nx Γ1
theorem dWhile_mono {t : DT} {b : DS} (mt : MonoK t) (mb : MonoS b) : MonoS (dWhile t b) := fun E E' Γ l h => by
  obtain ⟨W, w0, ws⟩ := h
  refine ⟨W, w0, fun m Γ' w => mt Γ' _ _ (fun c Γ1 q => ?_) (ws m Γ' w)⟩
  cases c with
  | true => exact mb { E with nx := fun Γ2 => ∃ m', m' < m ∧ W m' Γ2, ct := fun Γ2 => ∃ m', m' < m ∧ W m' Γ2, bk := E.nx } _ Γ1 ⟨fun _ q => q, l.rt, fun _ q => l.nx _ q, fun _ q => q⟩ q
  | false => exact l.nx _ q
theorem pds_while {c : Expr} {body : List Stmt} {pos : Pos} {t : DT} {b : DS} (hp : PassesOwn (model X.prog X.w) X.A X.env X.xe) (hc : PDT X R c t) (hb : PDSs X R body b) : PDS X R (.While c body [] pos) (dWhile t b) := by
  refine ⟨ps_imp (ps_while hp hc.pt hb.pss) fun E σ H ⟨Γ, D, r, q⟩ => ?_, dWhile_mono hc.mono hb.mono⟩
  obtain ⟨W, ⟨m0, w0⟩, ws⟩ := q
  refine ⟨fun m σ' H' => ∃ Γ' D', Rep X.K R σ' H' Γ' D' ∧ Same D D' ∧ W m Γ', ⟨m0, Γ, D, r, Same.refl _, w0⟩, ?_⟩
  rintro m σ' H' ⟨Γ', D', r', sm, w⟩
  refine goT r' hc.mono (ws m Γ' w) fun c' Γ1 H1 D1 h1 r1 s1 => ?_
  cases c' with
  | true =>
    refine ⟨fun σ2 H2 => ∃ m', m' < m ∧ ∃ Γ2 D2, Rep X.K R σ2 H2 Γ2 D2 ∧ Same D D2 ∧ W m' Γ2, fun σ2 H2 h => h, ?_⟩
    exact ⟨Γ1, D1, r1, hb.mono { endsOf X.K R E D with nx := fun Γ2 => ∃ m', m' < m ∧ W m' Γ2, ct := fun Γ2 => ∃ m', m' < m ∧ W m' Γ2, bk := (endsOf X.K R E D).nx } _ Γ1 ⟨fun Γ2 ⟨m', l, w2⟩ σ2 H2 D2 r2 sm2 => ⟨m', l, Γ2, D2, r2, (sm.trans s1.d).trans sm2, w2⟩, fun d2 Γ2 q2 v2 σ2 H2 D2 r2 sm2 dp2 => q2 v2 σ2 H2 D2 r2 ((sm.trans s1.d).trans sm2) dp2,
      fun Γ2 q2 σ2 H2 D2 r2 sm2 => q2 σ2 H2 D2 r2 ((sm.trans s1.d).trans sm2), fun Γ2 ⟨m', l, w2⟩ σ2 H2 D2 r2 sm2 => ⟨m', l, Γ2, D2, r2, (sm.trans s1.d).trans sm2, w2⟩⟩ h1⟩
  | false => exact h1 σ' H1 D1 r1 (sm.trans s1.d)
end
end DL

set_option Elab.async false
set_option linter.all false
set_option maxRecDepth 100000
set_option maxHeartbeats 1000000
namespace DL
open PySem PySem.Spec PyProof.Rows L2


def wipeD (Γ : DEnv) : List Nat → DEnv
  | [] => Γ
  | v :: vs => (wipeD Γ vs).set v none
def backD (Γ Γ0 : DEnv) : List Nat → DEnv
  | [] => Γ
  | v :: vs => (backD Γ Γ0 vs).set v ((Γ0[v]?).getD none)
def okW (Γ : DEnv) (vs : List Nat) : Prop := ∀ v ∈ vs, ∃ c, Γ[v]? = some c ∧ ∀ ds, c ≠ some (Ent.own ds) ∧ c ≠ some (Ent.arg ds)
theorem wipeD_len (Γ : DEnv) : ∀ vs : List Nat, (wipeD Γ vs).length = Γ.length
  | [] => rfl
  | v :: vs => by unfold wipeD; rw [List.length_set, wipeD_len Γ vs]
theorem backD_len (Γ Γ0 : DEnv) : ∀ vs : List Nat, (backD Γ Γ0 vs).length = Γ.length
  | [] => rfl
  | v :: vs => by unfold backD; rw [List.length_set, backD_len Γ Γ0 vs]
theorem wipeD_out {Γ : DEnv} {i : Nat} : ∀ {vs : List Nat}, i ∉ vs → (wipeD Γ vs)[i]? = Γ[i]?
  | [], _ => rfl
  | v :: vs, h => by
    unfold wipeD
    rw [List.getElem?_set_ne (fun z => h (by simp [z])), wipeD_out fun z => h (List.mem_cons_of_mem _ z)]
theorem wipeD_in {Γ : DEnv} {i : Nat} {e : Ent} : ∀ {vs : List Nat}, (wipeD Γ vs)[i]? = some (some e) → i ∉ vs ∧ Γ[i]? = some (some e)
  | [], h => ⟨by simp, h⟩
  | v :: vs, h => by
    unfold wipeD at h
    by_cases n : i = v
    · subst n
      by_cases hl : i < (wipeD Γ vs).length
      · rw [List.getElem?_set_self hl] at h; cases h
      · rw [List.getElem?_eq_none (by rw [List.length_set]; omega)] at h; cases h
    · rw [List.getElem?_set_ne (Ne.symm n)] at h
      obtain ⟨h1, h2⟩ := wipeD_in h
      exact ⟨by simp only [List.mem_cons, not_or]; exact ⟨n, h1⟩, h2⟩
theorem backD_out {Γ Γ0 : DEnv} {i : Nat} : ∀ {vs : List Nat}, i ∉ vs → (backD Γ Γ0 vs)[i]? = Γ[i]?
  | [], _ => rfl
  | v :: vs, h => by
    unfold backD
    rw [List.getElem?_set_ne (fun z => h (by simp [z])), backD_out fun z => h (List.mem_cons_of_mem _ z)]
theorem backD_in {Γ Γ0 : DEnv} {i : Nat} (hl : Γ.length = Γ0.length) : ∀ {vs : List Nat}, i ∈ vs → (backD Γ Γ0 vs)[i]? = Γ0[i]?
  | [], h => by simp at h
  | v :: vs, h => by
    unfold backD
    by_cases n : i = v
    · subst n
      by_cases hi : i < Γ0.length
      · rw [List.getElem?_set_self (by rw [backD_len, hl]; exact hi)]
        rw [List.getElem?_eq_getElem hi]
        rfl
      · rw [List.getElem?_eq_none (by rw [List.length_set, backD_len]; omega), List.getElem?_eq_none (by omega)]
    · rw [List.getElem?_set_ne (Ne.symm n)]
      exact backD_in hl (by rcases List.mem_cons.mp h with z | z; exact absurd z n; exact z)
theorem wipe_in {σ : L2.St} {i : Nat} : ∀ {vs : List Nat}, i ∈ vs → i < σ.length → (wipe σ vs)[i]? = some none
  | [], h, _ => by simp at h
  | v :: vs, h, hl => by
    unfold wipe
    by_cases n : i = v
    · subst n
      rw [List.getElem?_set_self (by rw [wipe_length]; exact hl)]
    · rw [List.getElem?_set_ne (Ne.symm n)]
      exact wipe_in (by rcases List.mem_cons.mp h with z | z; exact absurd z n; exact z) hl
section
variable {X : Cx} {R : Root} {K : PySem.W.Frag} {σ : L2.St} {H D : Hp} {Γ : DEnv}
theorem wipe_same {js vs : List Nat} {σ' : L2.St} {Γ' : DEnv} (o : Off js (wipe σ vs) Γ σ' Γ') (h : ∀ j ∈ js, j ∈ vs) : wipe σ' vs = wipe σ vs := by
  apply List.ext_getElem?
  intro i
  by_cases hi : i ∈ vs
  · by_cases hl : i < σ.length
    · rw [wipe_in hi hl, wipe_in hi (by rw [o.len, wipe_length]; exact hl)]
    · rw [List.getElem?_eq_none (by rw [wipe_length, o.len, wipe_length]; omega), List.getElem?_eq_none (by rw [wipe_length]; omega)]
  · rw [L2.wipe_out hi, o.slots i fun z => hi (h i z)]
theorem Rep.wiped {vs : List Nat} (r : Rep K R σ H Γ D) (ok : okW Γ vs) : Rep K R (wipe σ vs) H (wipeD Γ vs) D := by
  have out : ∀ {i : Nat}, i ∉ vs → (wipe σ vs)[i]? = σ[i]? := fun h => L2.wipe_out h
  refine ⟨r.sub, r.ext, r.new, r.kept, by rw [wipe_length, wipeD_len]; exact r.len, fun i d e => ?_, fun i d e => ?_, fun i d e => ?_, fun b e => ?_, fun i j ds es a e1 e2 e3 e4 => ?_, r.args⟩
  · obtain ⟨n, e⟩ := wipeD_in e
    rw [out n]; exact r.dat i d e
  · obtain ⟨n, e⟩ := wipeD_in e
    rw [out n]; exact r.own i d e
  · obtain ⟨n, e⟩ := wipeD_in e
    rw [out n]; exact r.arg i d e
  · obtain ⟨ds, e1, e2⟩ := r.a0 b e
    have n : 0 ∉ vs := fun z => by
      obtain ⟨c, q1, q2⟩ := ok 0 z
      rw [e1] at q1
      exact (q2 ds).2 (Option.some.inj q1).symm
    exact ⟨ds, by rw [wipeD_out n]; exact e1, fun i ds' q => e2 i ds' (wipeD_in q).2⟩
  · obtain ⟨n1, e1⟩ := wipeD_in e1
    obtain ⟨n2, e2⟩ := wipeD_in e2
    rw [out n1] at e3
    rw [out n2] at e4
    exact r.apart i j ds es a e1 e2 e3 e4
theorem mine_wiped {vs : List Nat} {a : Addr} (h : Mine (wipe σ vs) (wipeD Γ vs) a) : Mine σ Γ a := by
  obtain ⟨i, e1, e2⟩ := h
  have n : i ∉ vs := by
    rcases e2 with ⟨ds, e2⟩ | ⟨ds, e2⟩ <;> exact (wipeD_in e2).1
  rw [L2.wipe_out n] at e1
  refine ⟨i, e1, ?_⟩
  rcases e2 with ⟨ds, e2⟩ | ⟨ds, e2⟩
  · exact .inl ⟨ds, (wipeD_in e2).2⟩
  · exact .inr ⟨ds, (wipeD_in e2).2⟩
theorem Rep.back {vs : List Nat} {σ2 : L2.St} {Γ' : DEnv} {H' D' : Hp} (r' : Rep K R σ H' Γ' D') (ok : okW Γ' vs) (r : Rep K R σ2 H Γ D) (so : ∀ i, i ∉ vs → σ2[i]? = σ[i]?) (hl : σ2.length = σ.length) (sm : Same D' D) :
    Rep K R σ H (backD Γ Γ' vs) D := by
  have ll : Γ.length = Γ'.length := by rw [← r.len, ← r'.len, hl]
  have cls : ∀ (i : Nat) (e : Ent), (backD Γ Γ' vs)[i]? = some (some e) → (i ∉ vs ∧ Γ[i]? = some (some e)) ∨ (i ∈ vs ∧ Γ'[i]? = some (some e)) := fun i e q => by
    by_cases n : i ∈ vs
    · rw [backD_in ll n] at q; exact .inr ⟨n, q⟩
    · rw [backD_out n] at q; exact .inl ⟨n, q⟩
  have own : ∀ (i : Nat) ds, (backD Γ Γ' vs)[i]? = some (some (Ent.own ds)) → i ∉ vs ∧ Γ[i]? = some (some (Ent.own ds)) := fun i ds q => by
    rcases cls i _ q with z | ⟨z1, z2⟩
    · exact z
    · obtain ⟨c, q1, q2⟩ := ok i z1
      rw [z2] at q1
      exact ((q2 ds).1 (Option.some.inj q1).symm).elim
  have arg : ∀ (i : Nat) ds, (backD Γ Γ' vs)[i]? = some (some (Ent.arg ds)) → i ∉ vs ∧ Γ[i]? = some (some (Ent.arg ds)) := fun i ds q => by
    rcases cls i _ q with z | ⟨z1, z2⟩
    · exact z
    · obtain ⟨c, q1, q2⟩ := ok i z1
      rw [z2] at q1
      exact ((q2 ds).2 (Option.some.inj q1).symm).elim
  refine ⟨r.sub, r.ext, r.new, r.kept, by rw [backD_len, ← r.len, hl], fun i d e => ?_, fun i d e => ?_, fun i d e => ?_, fun b e => ?_, fun i j ds es a e1 e2 e3 e4 => ?_, r.args⟩
  · rcases cls i _ e with ⟨n, e⟩ | ⟨_, e⟩
    · rw [← so i n]; exact r.dat i d e
    · obtain ⟨v, q1, q2⟩ := r'.dat i d e
      exact ⟨v, q1, dp_mono sm q2⟩
  · obtain ⟨n, e⟩ := own i d e
    rw [← so i n]; exact r.own i d e
  · obtain ⟨n, e⟩ := arg i d e
    rw [← so i n]; exact r.arg i d e
  · obtain ⟨ds, e1, e2⟩ := r.a0 b e
    obtain ⟨ds', e1', e2'⟩ := r'.a0 b e
    have n : 0 ∉ vs := fun z => by
      obtain ⟨c, q1, q2⟩ := ok 0 z
      rw [e1'] at q1
      exact (q2 ds').2 (Option.some.inj q1).symm
    exact ⟨ds, by rw [backD_out n]; exact e1, fun i es q => e2 i es (arg i es q).2⟩
  · obtain ⟨n1, e1⟩ := own i ds e1
    obtain ⟨n2, e2⟩ := own j es e2
    rw [← so i n1] at e3
    rw [← so j n2] at e4
    exact r.apart i j ds es a e1 e2 e3 e4
theorem mine_back {vs : List Nat} {σ2 : L2.St} {Γ' : DEnv} {a : Addr} (ok : okW Γ' vs) (ll : Γ.length = Γ'.length) (so : ∀ i, i ∉ vs → σ2[i]? = σ[i]?) (h : Mine σ (backD Γ Γ' vs) a) : Mine σ2 Γ a := by
  obtain ⟨i, e1, e2⟩ := h
  have n : i ∉ vs := fun z => by
    obtain ⟨c, q1, q2⟩ := ok i z
    rw [backD_in ll z, q1] at e2
    rcases e2 with ⟨ds, e2⟩ | ⟨ds, e2⟩
    · exact (q2 ds).1 (Option.some.inj e2)
    · exact (q2 ds).2 (Option.some.inj e2)
  rw [backD_out n] at e2
  exact ⟨i, by rw [so i n]; exact e1, e2⟩
theorem Rep.tmpL {L : Addr} {o : HO} (r : Rep K R σ H Γ D) (h0 : R.H0 L = none) (hD : D L = none) (hm : ¬ Mine σ Γ L) : Rep K R σ (upd H L o) Γ D := by
  refine ⟨fun b u e => by rw [upd_ne (ne_of_none e hD)]; exact r.sub b u e, r.ext, r.new, fun b u e n => by rw [upd_ne (ne_of_none e h0)]; exact r.kept b u e n, r.len, r.dat, fun i ds e => ?_, fun i ds e => ?_, r.a0, r.apart, r.args⟩
  · obtain ⟨a, xs, e1, e2, e3⟩ := r.own i ds e
    have n : a ≠ L := fun z => hm ⟨i, by rw [← z]; exact e1, .inl ⟨ds, e⟩⟩
    exact ⟨a, xs, e1, by rw [upd_ne n]; exact e2, e3⟩
  · obtain ⟨a, xs, e0, e1, e2, e3⟩ := r.arg i ds e
    have n : a ≠ L := fun z => hm ⟨i, by rw [← z]; exact e1, .inr ⟨ds, e⟩⟩
    exact ⟨a, xs, e0, e1, by rw [upd_ne n]; exact e2, e3⟩
def dLc (di : DI) (g : DG) (t : DT) (e : DE) (vs : List Nat) : DA := fun Γ Q => di Γ fun ds Γ1 => okW Γ1 vs ∧ ∃ Pv : Nat → List PyData → DEnv → Prop, Pv 0 [] Γ1 ∧
  (∀ i d acc Γ', ds[i]? = some d → Pv i acc Γ' → g d (wipeD Γ' vs) fun Γ2 => t Γ2 fun b Γ3 => if b = true then e Γ3 fun y Γ4 => acc.length < 1000000 ∧ Pv (i + 1) (acc ++ [y]) (backD Γ4 Γ' vs) else Pv (i + 1) acc (backD Γ3 Γ' vs)) ∧
  ∀ acc Γ', Pv ds.length acc Γ' → Q acc Γ'
theorem dLc_mono {di : DI} {g : DG} {t : DT} {e : DE} {vs : List Nat} (mi : MonoK di) : MonoK (dLc di g t e vs) := fun Γ W W' m h => mi Γ _ _ (fun ds Γ1 ⟨ok, Pv, p0, ps, pd⟩ => ⟨ok, Pv, p0, ps, fun acc Γ' p => m _ _ (pd acc Γ' p)⟩) h
theorem okW_back {vs : List Nat} {Γ' : DEnv} (ok : okW Γ' vs) (ll : Γ.length = Γ'.length) : okW (backD Γ Γ' vs) vs := fun v hv => by
  obtain ⟨c, q1, q2⟩ := ok v hv
  exact ⟨c, by rw [backD_in ll hv]; exact q1, q2⟩
theorem lc_imp {di : DI} {g : DG} {t : DT} {e : DE} {vs js : List Nat} (mi : MonoK di) (mg : MonoG g) (mt : MonoK t) (me : MonoK e) (hj : ∀ j ∈ js, j ∈ vs) {Q : VK} (q : liftL K R (dLc di g t e vs) σ H Q) :
    tLc (liftI K R di) (liftG K R js g) (liftT K R t) (liftE K R e) vs σ H Q := by
  obtain ⟨Γ, D, r, q⟩ := q
  refine goI r mi q fun ds Γ1 J H1 D1 h1 r1 s1 it L hL => ?_
  obtain ⟨ok, Pv, p0, ps, pd⟩ := h1
  have hL0 : H L = none := step_free s1 hL
  have h0L := h0_none r1 hL
  have gr := Grow.tmp (o := .lst []) r1.sub hL
  refine ⟨fun i m H' => m = ds.length - i ∧ i ≤ ds.length ∧ ∃ Γ' D' acc xs, Rep K R σ H' Γ' D' ∧ Step σ Γ D H Γ' D' H' ∧ Same D1 D' ∧ H' L = some (.lst xs) ∧ D' L = none ∧ ¬ Mine σ Γ' L ∧ DpAll K D' xs acc ∧ okW Γ' vs ∧ Pv i acc Γ',
    ⟨ds.length, by simp, Nat.zero_le _, Γ1, D1, [], [], r1.grow gr, s1.trans gr.step, Same.refl _, upd_same, d_none r1.sub hL, mine_no r1 hL, .nil, ok, p0⟩, ?_⟩
  rintro i m H' ⟨rfl, hi, Γ', D', acc, xs, r', st, sm, hHL, hDL, nm, dacc, ok', p⟩
  by_cases hlt : i < ds.length
  · refine .inr ⟨it.go i H' D' sm r'.sub hlt, fun H5 => ∃ Γ5 D5 acc5 xs5, Rep K R σ H5 Γ5 D5 ∧ Step σ Γ D H Γ5 D5 H5 ∧ Same D1 D5 ∧ H5 L = some (.lst xs5) ∧ D5 L = none ∧ ¬ Mine σ Γ5 L ∧ DpAll K D5 xs5 acc5 ∧ okW Γ5 vs ∧ Pv (i + 1) acc5 Γ5,
      fun H5 h5 => ⟨ds.length - (i + 1), by omega, rfl, hlt, h5⟩, fun x H2 y => ?_⟩
    obtain ⟨D2, d, g2, ed, dp⟩ := it.yld i H' D' x H2 sm r'.sub hlt y
    have r2 := r'.grow g2
    have rw2 := r2.wiped ok'
    refine ⟨wipeD Γ' vs, D2, d, rw2, dp, mg d _ _ _ (fun Γ3 q3 σ3 r3 o3 => ⟨wipe_same o3 hj, goT r3 mt q3 fun b Γ4 H4 D4 h4 r4 s4 => ?_⟩) (ps i d acc Γ' ed p)⟩
    have so : ∀ i, i ∉ vs → σ3[i]? = σ[i]? := fun i n => by rw [o3.slots i fun z => n (hj i z), L2.wipe_out n]
    have sl : σ3.length = σ.length := by rw [o3.len, wipe_length]
    have nm3 : ¬ Mine σ3 Γ3 L := fun z => nm (mine_wiped (o3.mine L z))
    have hL2 : H2 L = some (.lst xs) := g2.h _ _ hHL
    have hD2 : D2 L = none := by
      cases q : D2 L with
      | none => rfl
      | some u =>
        rcases g2.new L u q with z | z
        · rw [hDL] at z; cases z
        · rw [hHL] at z; cases z
    -- the turn's end, from a state Γ5 D5 H5 behind steps of the block
    have fin : ∀ {Γ5 : DEnv} {D5 H5 : Hp} {acc5 : List PyData} {xs5 : List V}, Rep K R σ3 H5 Γ5 D5 → Step σ3 Γ3 D2 H2 Γ5 D5 H5 → DpAll K D5 xs5 acc5 → Pv (i + 1) acc5 (backD Γ5 Γ' vs) → (H5 L = some (.lst xs5) ∨ True) →
        ∀ H6, (H6 = H5 ∧ H5 L = some (.lst xs5)) ∨ H6 = upd H5 L (.lst xs5) → ∃ Γ6 D6 acc6 xs6, Rep K R σ H6 Γ6 D6 ∧ Step σ Γ D H Γ6 D6 H6 ∧ Same D1 D6 ∧ H6 L = some (.lst xs6) ∧ D6 L = none ∧ ¬ Mine σ Γ6 L ∧ DpAll K D6 xs6 acc6 ∧ okW Γ6 vs ∧ Pv (i + 1) acc6 Γ6 := fun {Γ5 D5 H5 acc5 xs5} r5 s5 da pv _ H6 h6 => by
      have ll : Γ5.length = Γ'.length := by rw [← r5.len, ← r'.len, sl]
      have hL5 : H5 L = some (.lst xs) := s5.keep _ _ hL2 nm3
      have hD5 : D5 L = none := by
        cases q : D5 L with
        | none => rfl
        | some u =>
          rcases s5.new L u q with z | z | z
          · rw [hD2] at z; cases z
          · rw [hL2] at z; cases z
          · exact (nm3 z).elim
      have nm5 : ¬ Mine σ (backD Γ5 Γ' vs) L := fun z => nm3 (s5.mine L (mine_back ok' ll so z))
      have rb := Rep.back r' ok' r5 so sl (g2.d.trans s5.d)
      have mchain : ∀ a, Mine σ3 Γ3 a → Mine σ Γ a := fun a z => st.mine a (mine_wiped (o3.mine a z))
      have stB : Step σ Γ D H (backD Γ5 Γ' vs) D5 H5 := by
        refine ⟨st.d.trans (g2.d.trans s5.d), fun a o h n => s5.keep a o (g2.h _ _ (st.keep a o h n)) fun z => n (mchain a z), fun a z => mchain a (s5.mine a (mine_back ok' ll so z)), fun a o h => ?_, fun a o h => ?_⟩
        · rcases s5.new a o h with z | z | z
          · rcases g2.new a o z with z | z
            · exact st.new a o z
            · refine .inr (.inl ?_)
              cases q : H a with
              | none => rfl
              | some u =>
                obtain ⟨u', e⟩ := st.there a u q
                rw [e] at z; cases z
          · refine .inr (.inl ?_)
            cases q : H a with
            | none => rfl
            | some u =>
              obtain ⟨u', e⟩ := st.there a u q
              rw [g2.h _ _ e] at z; cases z
          · exact .inr (.inr (mchain a z))
        · obtain ⟨o', e⟩ := st.there a o h
          exact s5.there a o' (g2.h _ _ e)
      rcases h6 with ⟨rfl, h6⟩ | rfl
      · exact ⟨_, D5, acc5, xs5, rb, stB, sm.trans (g2.d.trans s5.d), h6, hD5, nm5, da, okW_back ok' ll, pv⟩
      · refine ⟨_, D5, acc5, xs5, rb.tmpL h0L hD5 nm5, ⟨stB.d, fun a o h n => ?_, stB.mine, stB.new, fun a o h => ?_⟩, sm.trans (g2.d.trans s5.d), upd_same, hD5, nm5, da, okW_back ok' ll, pv⟩
        · rw [upd_ne (ne_of_none h hL0)]; exact stB.keep a o h n
        · rw [upd_ne (ne_of_none h hL0)]; exact stB.there a o h
    cases b with
    | true =>
      refine goE r4 me h4 fun y Γ5 v H5 D5 h5 r5 s5 dp5 => ?_
      have s45 := s4.trans s5
      have hL5 : H5 L = some (.lst xs) := s45.keep _ _ hL2 nm3
      have da5 : DpAll K D5 (xs ++ [v]) (acc ++ [y]) := dpAll_app (dpAll_mono (g2.d.trans s45.d) dacc) (.cons dp5 .nil)
      refine ⟨xs, hL5, by rw [dpAll_len dacc]; exact Nat.lt_of_lt_of_le h5.1 (by decide), ?_⟩
      exact fin r5 s45 da5 h5.2 (.inr trivial) _ (.inr rfl)
    | false =>
      exact fin r4 s4 (dpAll_mono (g2.d.trans s4.d) dacc) h4 (.inr trivial) H4 (.inl ⟨rfl, s4.keep _ _ hL2 nm3⟩)
  · have e : i = ds.length := by omega
    subst e
    exact .inl ⟨it.stop H' D' sm r'.sub, pd acc Γ' p L xs H' D' r' st hL0 hHL hDL nm dacc⟩
structure PDTs (X : Cx) (R : Root) (ifs : List Expr) (t : DT) : Prop where
  pts : PTs X ifs (liftT X.K R t)
  mono : MonoK t
def dYes : DT := fun Γ Q => Q true Γ
theorem pdts_nil : PDTs X R [] dYes := ⟨⟨fun pins s σ H Q I ⟨Γ, D, r, q⟩ => pts_nil.run pins s σ H Q I (q H D r Step.refl)⟩, fun Γ W W' m h => m _ _ h⟩
theorem pdts_one {c : Expr} {t : DT} (h : PDT X R c t) : PDTs X R [c] t := ⟨pts_one h.pt, h.mono⟩
theorem pdl_lc {elt tg iter : Expr} {ifs : List Expr} {scope : Scope} {own : List (Str × Nat)} {pos : Pos} {di : DI} {g : DG} {t : DT} {e : DE} {js : List Nat} (hc : X.calm = true) (hN : X.N.Nodup) (hi : PDI X R tg iter di) (ok : BlkOk X.N X.env.scope scope own)
    (hg : ∀ (s : Shared) (H : Hp) (C : Addr) (cl : List (Str × Addr)) (fp : List Addr), PDG (X.blk s H scope (compEnvC scope cl C X.env) fp) R js tg g) (ht : ∀ (s : Shared) (H : Hp) (C : Addr) (cl : List (Str × Addr)) (fp : List Addr), PDTs (X.blk s H scope (compEnvC scope cl C X.env) fp) R ifs t)
    (he : ∀ (s : Shared) (H : Hp) (C : Addr) (cl : List (Str × Addr)) (fp : List Addr), PDE (X.blk s H scope (compEnvC scope cl C X.env) fp) R elt e) (hj : ∀ j ∈ js, j ∈ own.map (·.2) := by decide) (hs : ∀ x, foldedSetIterable iter X.env x = pure x := by intro _; rfl) :
    PDL X R (.ListComp elt [⟨tg, iter, ifs, 0⟩] scope pos) (dLc di g t e (own.map (·.2))) := by
  have s0 : Shared := X.s_0
  have H0 : Hp := X.H_0
  refine ⟨pe_imp (pe_lc (g := liftG X.K R js g) (tt := liftT X.K R t) (te := liftE X.K R e) hc hN hi.pi ok (fun s H C cl fp => (hg s H C cl fp).pg) (fun s H C cl fp => (ht s H C cl fp).pts) (fun s H C cl fp => (he s H C cl fp).pe) hs) fun σ H Q q => ?_, dLc_mono hi.mono⟩
  exact lc_imp hi.mono (hg s0 H0 0 [] []).mono (ht s0 H0 0 [] []).mono (he s0 H0 0 [] []).mono hj q
theorem pds_setLcO {i : Nat} {y : Str} {py : Pos} {elt tg iter : Expr} {ifs : List Expr} {scope : Scope} {own : List (Str × Nat)} {pos spos : Pos} {di : DI} {g : DG} {t : DT} {e : DE} {js : List Nat} (hc : X.calm = true) (hN : X.N.Nodup)
    (hsw : swapsWith (.ListComp elt [⟨tg, iter, ifs, 0⟩] scope pos) (some (.Name y py)) spos.line X.env = pure true) (hi : PDI X R tg iter di) (ok : BlkOk X.N X.env.scope scope own)
    (hg : ∀ (s : Shared) (H : Hp) (C : Addr) (cl : List (Str × Addr)) (fp : List Addr), PDG (X.blk s H scope (compEnvC scope cl C X.env) fp) R js tg g) (ht : ∀ (s : Shared) (H : Hp) (C : Addr) (cl : List (Str × Addr)) (fp : List Addr), PDTs (X.blk s H scope (compEnvC scope cl C X.env) fp) R ifs t)
    (he : ∀ (s : Shared) (H : Hp) (C : Addr) (cl : List (Str × Addr)) (fp : List Addr), PDE (X.blk s H scope (compEnvC scope cl C X.env) fp) R elt e) (hj : ∀ j ∈ js, j ∈ own.map (·.2) := by decide) (hy : X.N[i]? = some y := by rfl) (hyl : X.env.scope.names.lookup y = some .local := by rfl) (hs : ∀ x, foldedSetIterable iter X.env x = pure x := by intro _; rfl) :
    PDS X R (.Assign [.Name y py] (.ListComp elt [⟨tg, iter, ifs, 0⟩] scope pos) spos) (dAsgO (dLc di g t e (own.map (·.2))) i) := by
  have s0 : Shared := X.s_0
  have H0 : Hp := X.H_0
  refine ⟨ps_imp (ps_setLc (g := liftG X.K R js g) (tt := liftT X.K R t) (te := liftE X.K R e) hc hN hy hyl hsw hi.pi ok (fun s H C cl fp => (hg s H C cl fp).pg) (fun s H C cl fp => (ht s H C cl fp).pts) (fun s H C cl fp => (he s H C cl fp).pe) hs) fun E σ H ⟨Γ, D, r, q⟩ => ?_, dAsgO_mono (dLc_mono hi.mono)⟩
  refine lc_imp hi.mono (hg s0 H0 0 [] []).mono (ht s0 H0 0 [] []).mono (he s0 H0 0 [] []).mono hj ?_
  refine goL r (dLc_mono hi.mono) q fun ds Γ1 p xs H1 D1 h1 r1 s1 hp hp1 hD1 nm q1 => ?_
  obtain ⟨Γ2, h2, r2⟩ := setO_go r1 (h0_none r hp) hp1 hD1 nm q1 h1
  exact h2 _ H1 D1 r2 s1.d
theorem pds_setLc {i : Nat} {y : Str} {py : Pos} {elt tg iter : Expr} {ifs : List Expr} {scope : Scope} {own : List (Str × Nat)} {pos spos : Pos} {di : DI} {g : DG} {t : DT} {e : DE} {js : List Nat} (hc : X.calm = true) (hN : X.N.Nodup)
    (hsw : swapsWith (.ListComp elt [⟨tg, iter, ifs, 0⟩] scope pos) (some (.Name y py)) spos.line X.env = pure true) (hi : PDI X R tg iter di) (ok : BlkOk X.N X.env.scope scope own)
    (hg : ∀ (s : Shared) (H : Hp) (C : Addr) (cl : List (Str × Addr)) (fp : List Addr), PDG (X.blk s H scope (compEnvC scope cl C X.env) fp) R js tg g) (ht : ∀ (s : Shared) (H : Hp) (C : Addr) (cl : List (Str × Addr)) (fp : List Addr), PDTs (X.blk s H scope (compEnvC scope cl C X.env) fp) R ifs t)
    (he : ∀ (s : Shared) (H : Hp) (C : Addr) (cl : List (Str × Addr)) (fp : List Addr), PDE (X.blk s H scope (compEnvC scope cl C X.env) fp) R elt e) (hj : ∀ j ∈ js, j ∈ own.map (·.2) := by decide) (hy : X.N[i]? = some y := by rfl) (hyl : X.env.scope.names.lookup y = some .local := by rfl) (hs : ∀ x, foldedSetIterable iter X.env x = pure x := by intro _; rfl) :
    PDS X R (.Assign [.Name y py] (.ListComp elt [⟨tg, iter, ifs, 0⟩] scope pos) spos) (dAsg (dFrz (dLc di g t e (own.map (·.2)))) i) := by
  have s0 : Shared := X.s_0
  have H0 : Hp := X.H_0
  refine ⟨ps_imp (ps_setLc (g := liftG X.K R js g) (tt := liftT X.K R t) (te := liftE X.K R e) hc hN hy hyl hsw hi.pi ok (fun s H C cl fp => (hg s H C cl fp).pg) (fun s H C cl fp => (ht s H C cl fp).pts) (fun s H C cl fp => (he s H C cl fp).pe) hs) fun E σ H ⟨Γ, D, r, q⟩ => ?_, dAsg_mono (dFrz_mono (dLc_mono hi.mono))⟩
  refine lc_imp hi.mono (hg s0 H0 0 [] []).mono (ht s0 H0 0 [] []).mono (he s0 H0 0 [] []).mono hj ?_
  refine goL r (dLc_mono hi.mono) q fun ds Γ1 p xs H1 D1 h1 r1 s1 hp hp1 hD1 nm q1 => ?_
  have r2 := frz_grow r1 (h0_none r hp) hp1 hD1 nm
  have sm : Same D1 (upd D1 p (.lst xs)) := fun b u e => by rw [upd_ne (ne_of_none e hD1)]; exact e
  obtain ⟨Γ3, h3, r3⟩ := setD_go r2 (.lst (SqX.of upd_same) (dpAll_mono sm q1)) h1
  exact h3 _ H1 _ r3 (s1.d.trans sm)
end
end DL

set_option Elab.async false
set_option linter.all false
set_option maxRecDepth 100000
set_option maxHeartbeats 1000000
namespace DL
open PySem PySem.Spec PyProof.Rows L2


abbrev PSpec := List PyData → (PyData → Prop) → Prop
def spP (K : PySem.W.Frag) (t : PSpec) : Sp := fun vs H Q _ => ∃ D ds, Sub D H ∧ DpAll K D vs ds ∧ t ds fun r => ∀ v H' D', Grow D H D' H' → Dp K D' v r → Q v H'
abbrev FSpec := List PyData → List PyData → (PyData → List PyData → Prop) → Prop
structure GrowBut (a : Addr) (D H D' H' : Hp) : Prop where
  h : ∀ b o, H b = some o → b ≠ a → H' b = some o
  d : Same D D'
  sub : Sub D' H'
  new : ∀ b o, D' b = some o → D b = some o ∨ H b = none
def spF (K : PySem.W.Frag) (t : FSpec) : Sp := fun vs H Q _ => ∃ D a xs ds vs' ds', vs = .ref a :: vs' ∧ Sub D H ∧ H a = some (.lst xs) ∧ D a = none ∧ DpAll K D xs ds ∧ DpAll K D vs' ds' ∧
  t ds ds' fun r es => ∀ v H' D' xs', GrowBut a D H D' H' → H' a = some (.lst xs') → DpAll K D' xs' es → Dp K D' v r → Q v H'
def MonoP (t : PSpec) : Prop := ∀ ds (W W' : PyData → Prop), (∀ z, W z → W' z) → t ds W → t ds W'
def MonoF (t : FSpec) : Prop := ∀ fs ds (W W' : PyData → List PyData → Prop), (∀ z es, W z es → W' z es) → t fs ds W → t fs ds W'
def startD (N : List Str) (ds : List PyData) : DEnv := ds.map (fun d => some (Ent.dat d)) ++ List.replicate (N.length - ds.length) none
def startF (N : List Str) (fs ds : List PyData) : DEnv := some (Ent.arg fs) :: (ds.map (fun d => some (Ent.dat d)) ++ List.replicate (N.length - (ds.length + 1)) none)
section
variable {X : Cx} {R : Root} {K : PySem.W.Frag} {σ : L2.St} {H D : Hp} {Γ : DEnv}
theorem startD_get {N : List Str} {ds : List PyData} {i : Nat} {e : Ent} (h : (startD N ds)[i]? = some (some e)) : ∃ d, ds[i]? = some d ∧ e = Ent.dat d := by
  unfold startD at h
  by_cases hi : i < ds.length
  · rw [List.getElem?_append_left (by simpa using hi), List.getElem?_map, List.getElem?_eq_getElem hi] at h
    exact ⟨ds[i], List.getElem?_eq_getElem hi, (Option.some.inj (Option.some.inj h)).symm⟩
  · rw [List.getElem?_append_right (by simpa using hi), List.getElem?_replicate] at h
    split at h <;> cases h
theorem start_get {N : List Str} {vs : List V} {i : Nat} {v : V} (h : vs[i]? = some v) : (start N vs)[i]? = some (some v) := by
  obtain ⟨hi, _⟩ := List.getElem?_eq_some_iff.mp h -- k09
  unfold L2.start
  rw [List.getElem?_append_left (by simpa using hi), List.getElem?_map, h]
  rfl
theorem rep_start {N : List Str} {vs : List V} {ds : List PyData} (u : Sub D H) (hd : DpAll K D vs ds) : Rep K ⟨H, D, none⟩ (start N vs) H (startD N ds) D := by
  have el := dpAll_len hd
  refine ⟨u, Same.refl _, fun _ _ h => Or.inl h, fun _ _ h _ => h, ?_, fun i d e => ?_, fun i d e => ?_, fun i d e => ?_, (fun a e => nomatch e), fun i j d e a h1 _ _ _ => ?_, (fun a e => nomatch e)⟩
  · unfold L2.start startD
    simp only [List.length_append, List.length_map, List.length_replicate, el]
  · obtain ⟨d', e1, e2⟩ := startD_get e
    cases e2
    obtain ⟨v, q1, q2⟩ := dpAll_get hd e1
    exact ⟨v, start_get q1, q2⟩
  · obtain ⟨d', e1, e2⟩ := startD_get e
    cases e2
  · obtain ⟨d', e1, e2⟩ := startD_get e
    cases e2
  · obtain ⟨d', e1, e2⟩ := startD_get h1
    cases e2
theorem okP {P : Program} {w : World} {mg : Str → Option Value} {base : Heap} {x qual : Str} {st : Stmt} {f : Addr} {fd : FuncData} {N ps : List Str} {k : Nat} {t : PSpec} (F : Fun K x qual st f fd) (S : FnScope N ps (defScope st)) (len : ∀ ds Q, t ds Q → ds.length = ps.length) (mt : MonoP t)
    (hbody : ∀ (cdv : Value) (A : Around) (outer : List Env) (s : Shared) (H : Hp) (E : XK) (R : Root), Room k (A.deeper (envOfC qual (defScope st) s.heap.objs.size f cdv)) →
      ∃ b : DS, PDSs (cxOf CX0 P w K mg base N qual (defScope st) f cdv A outer s H E).nox R (defBody st) b ∧ ∀ ds (W : PyData → Prop), t ds W → b { nx := fun _ => W .none, rt := fun d _ => W d } (startD N ds)) : FnOk P w K mg base CX0 (k + 1) f fd ps (spP K t) := by
  refine F.ok S (fun vs H Q E h => ?_) (fun cdv A outer s H vs Q E hr h => ?_)
  · obtain ⟨D, ds, _, hd, q⟩ := h
    rw [dpAll_len hd]
    exact len ds _ q
  · obtain ⟨D, ds, u, hd, q⟩ := h
    obtain ⟨b, hb, hq⟩ := hbody cdv A outer s H E ⟨H, D, none⟩ hr
    refine ⟨_, hb.pss, startD N ds, D, rep_start u hd, ?_⟩
    have grow : ∀ {σ' : L2.St} {H' : Hp} {Γ' : DEnv} {D' : Hp}, Rep K ⟨H, D, none⟩ σ' H' Γ' D' → Grow D H D' H' := fun r => ⟨fun b o e => r.kept b o e (fun z => nomatch z), r.ext, r.sub, r.new⟩
    refine hb.mono _ _ _ ⟨fun Γ' z σ' H' D' r' _ => ?_, fun d Γ' z v σ' H' D' r' _ dp => ?_, fun _ z => False.elim z, fun _ z => False.elim z⟩ (hq ds (fun r => ∀ v H' D', Grow D H D' H' → Dp K D' v r → Q v H') q)
    · exact z .non H' D' (grow r') .non
    · exact z v H' D' (grow r') dp
theorem rep_startF {N : List Str} {vs : List V} {fs ds : List PyData} {a : Addr} {xs : List V} (u : Sub D H) (ha : H a = some (.lst xs)) (hD : D a = none) (hx : DpAll K D xs fs) (hd : DpAll K D vs ds) : Rep K ⟨H, D, some a⟩ (start N (.ref a :: vs)) H (startF N fs ds) D := by
  have el := dpAll_len hd
  have cls : ∀ (i : Nat) (e : Ent), (startF N fs ds)[i]? = some (some e) → (i = 0 ∧ e = Ent.arg fs) ∨ ∃ j d, i = j + 1 ∧ ds[j]? = some d ∧ e = Ent.dat d := fun i e h => by
    unfold startF at h
    cases i with
    | zero => exact .inl ⟨rfl, (Option.some.inj (Option.some.inj h)).symm⟩
    | succ j =>
      have h : (ds.map (fun d => some (Ent.dat d)) ++ List.replicate (N.length - (ds.length + 1)) none)[j]? = some (some e) := by simpa using h
      by_cases hi : j < ds.length
      · rw [List.getElem?_append_left (by simpa using hi), List.getElem?_map, List.getElem?_eq_getElem hi] at h
        exact .inr ⟨j, ds[j], rfl, List.getElem?_eq_getElem hi, (Option.some.inj (Option.some.inj h)).symm⟩
      · rw [List.getElem?_append_right (by simpa using hi), List.getElem?_replicate] at h
        split at h <;> cases h
  have s0 : (start N (.ref a :: vs))[0]? = some (some (V.ref a)) := start_get rfl
  refine ⟨u, Same.refl _, fun _ _ h => .inl h, fun _ _ h _ => h, ?_, fun i d e => ?_, fun i d e => ?_, fun i d e => ?_, fun b e => ?_, fun i j d e b h1 _ _ _ => ?_, fun b e => ?_⟩
  · unfold L2.start startF
    simp only [List.length_append, List.length_map, List.length_replicate, List.length_cons, el]
    omega
  · rcases cls i _ e with ⟨_, z⟩ | ⟨j, d', e0, e1, e2⟩
    · cases z
    · cases e2
      subst e0
      obtain ⟨v, q1, q2⟩ := dpAll_get hd e1
      exact ⟨v, start_get (by simpa using q1), q2⟩
  · rcases cls i _ e with ⟨_, z⟩ | ⟨j, d', e0, e1, e2⟩
    · cases z
    · cases e2
  · rcases cls i _ e with ⟨e0, z⟩ | ⟨j, d', e0, e1, e2⟩
    · cases z
      subst e0
      exact ⟨a, xs, rfl, s0, ha, hD, hx⟩
    · cases e2
  · refine ⟨fs, rfl, fun i ds' e => ?_⟩
    rcases cls i _ e with ⟨e0, z⟩ | ⟨j, d', e0, e1, e2⟩
    · exact e0
    · cases e2
  · rcases cls i _ h1 with ⟨e0, z⟩ | ⟨j, d', e0, e1, e2⟩
    · cases z
    · cases e2
  · cases e
    exact ⟨_, ha⟩
theorem okF {P : Program} {w : World} {mg : Str → Option Value} {base : Heap} {x qual : Str} {st : Stmt} {f : Addr} {fd : FuncData} {N ps : List Str} {k : Nat} {t : FSpec} (F : Fun K x qual st f fd) (S : FnScope N ps (defScope st)) (len : ∀ fs ds Q, t fs ds Q → ds.length + 1 = ps.length) (mt : MonoF t)
    (hbody : ∀ (cdv : Value) (A : Around) (outer : List Env) (s : Shared) (H : Hp) (E : XK) (R : Root), Room k (A.deeper (envOfC qual (defScope st) s.heap.objs.size f cdv)) →
      ∃ b : DS, PDSs (cxOf CX0 P w K mg base N qual (defScope st) f cdv A outer s H E).nox R (defBody st) b ∧ ∀ fs ds (W : PyData → List PyData → Prop), t fs ds W →
        b { nx := fun Γ => ∀ es, Γ[0]? = some (some (Ent.arg es)) → W .none es, rt := fun d Γ => ∀ es, Γ[0]? = some (some (Ent.arg es)) → W d es } (startF N fs ds)) : FnOk P w K mg base CX0 (k + 1) f fd ps (spF K t) := by
  refine F.ok S (fun vs H Q E h => ?_) (fun cdv A outer s H vs Q E hr h => ?_)
  · obtain ⟨D, a, xs, fs, vs', ds, rfl, _, _, _, _, hd, q⟩ := h
    rw [List.length_cons, dpAll_len hd]
    exact len fs ds _ q
  · obtain ⟨D, a, xs, fs, vs', ds, rfl, u, ha, hD, hx, hd, q⟩ := h
    obtain ⟨b, hb, hq⟩ := hbody cdv A outer s H E ⟨H, D, some a⟩ hr
    refine ⟨_, hb.pss, startF N fs ds, D, rep_startF u ha hD hx hd, ?_⟩
    have grow : ∀ {σ' : L2.St} {H' : Hp} {Γ' : DEnv} {D' : Hp}, Rep K ⟨H, D, some a⟩ σ' H' Γ' D' → GrowBut a D H D' H' := fun r => ⟨fun b o e n => r.kept b o e (fun z => n (Option.some.inj z).symm), r.ext, r.sub, r.new⟩
    have last : ∀ {σ' : L2.St} {H' : Hp} {Γ' : DEnv} {D' : Hp}, Rep K ⟨H, D, some a⟩ σ' H' Γ' D' → ∃ es xs', Γ'[0]? = some (some (Ent.arg es)) ∧ H' a = some (.lst xs') ∧ DpAll K D' xs' es := fun r => by
      obtain ⟨es, e1, _⟩ := r.a0 a rfl
      obtain ⟨a', xs', e0, _, e2, _, e4⟩ := r.arg 0 es e1
      cases e0
      exact ⟨es, xs', e1, e2, e4⟩
    refine hb.mono _ _ _ ⟨fun Γ' z σ' H' D' r' _ => ?_, fun d Γ' z v σ' H' D' r' _ dp => ?_, fun _ z => False.elim z, fun _ z => False.elim z⟩ (hq fs ds (fun r es => ∀ v H' D' xs', GrowBut a D H D' H' → H' a = some (.lst xs') → DpAll K D' xs' es → Dp K D' v r → Q v H') q)
    · obtain ⟨es, xs', e1, e2, e3⟩ := last r'
      exact z es e1 .non H' D' xs' (grow r') e2 e3 .non
    · obtain ⟨es, xs', e1, e2, e3⟩ := last r'
      exact z es e1 v H' D' xs' (grow r') e2 e3 dp


def dCallP (t : PSpec) (a : DA) : DE := fun Γ Q => a Γ fun ds Γ1 => t ds fun r => Q r Γ1
theorem dCallP_mono {t : PSpec} {a : DA} (mt : MonoP t) (ma : MonoK a) : MonoK (dCallP t a) := fun Γ W W' m h => ma Γ _ _ (fun ds Γ1 q => mt ds _ _ (fun z w => m z Γ1 w) q) h
theorem pde_call {CX : CXT} {k : Nat} {f : Addr} {fd : FuncData} {ps : List Str} {t : PSpec} {E : XK} {x : Str} {p pos : Pos} {e : Expr} {es : List Expr} {a : DA} (mt : MonoP t) (F : FnOk X.prog X.w X.K X.mg X.base CX k f fd ps (spP X.K t)) (hr : Room k X.A) (hm : X.mg x = some (.ref f)) (hk : PySem.W.keepIn X.K (.ref f) = true) (hb : Binds X.K fd ps []) (hx : Passes CX X E)
    (ha : PDA X R (e :: es) a) (hg : Gl X x := by rfl) (hdb : (x == ("__debug__" : Str)) = false := by decide) (he : starEach (e :: es) X.env = (false, eval e X.env) :: starEach es X.env := by rfl) (hpl : (backTo pos (starEach es X.env)).any (·.1) = false := by rfl) : PDE X R (.Call (.Name x p) (e :: es) [] pos) (dCallP t a) := by
  refine ⟨pe_imp (pe_call F hr hg hm hk hb .nil hx ha.pa hdb he hpl) fun σ H Q ⟨Γ, D, r, q⟩ => ?_, dCallP_mono mt ha.mono⟩
  refine goA r ha.mono q fun ds Γ1 vs H1 D1 h1 r1 s1 q1 => ?_
  rw [List.append_nil]
  exact ⟨D1, ds, r1.sub, q1, mt ds _ _ (fun z w v H' D' g dp => w v H' D' (r1.grow g) (s1.trans g.step) dp) h1⟩
theorem pde_call0 {CX : CXT} {k : Nat} {f : Addr} {fd : FuncData} {ps : List Str} {t : PSpec} {E : XK} {x : Str} {p pos : Pos} (mt : MonoP t) (F : FnOk X.prog X.w X.K X.mg X.base CX k f fd ps (spP X.K t)) (hr : Room k X.A) (hm : X.mg x = some (.ref f)) (hk : PySem.W.keepIn X.K (.ref f) = true) (hb : Binds X.K fd ps []) (hx : Passes CX X E)
    (hg : Gl X x := by rfl) (hdb : (x == ("__debug__" : Str)) = false := by decide) : PDE X R (.Call (.Name x p) [] [] pos) (dCallP t dNil) := by
  refine ⟨pe_imp (pe_call0 F hr hg hm hk hb .nil hx hdb) fun σ H Q ⟨Γ, D, r, q⟩ => ?_, dCallP_mono mt dNil_mono⟩
  exact ⟨D, [], r.sub, .nil, mt [] _ _ (fun z w v H' D' g dp => w v H' D' (r.grow g) g.step dp) q⟩
def dCallF (i : Nat) (t : FSpec) (a : DA) : DE := fun Γ Q => match Γ[i]? with
  | some (some (Ent.own _)) => a Γ fun ds Γ1 => match Γ1[i]? with
    | some (some (Ent.own fs)) => t fs ds fun r es => Q r (Γ1.set i (some (Ent.own es)))
    | _ => False
  | some (some (Ent.arg _)) => a Γ fun ds Γ1 => match Γ1[i]? with
    | some (some (Ent.arg fs)) => t fs ds fun r es => Q r (Γ1.set i (some (Ent.arg es)))
    | _ => False
  | _ => False
theorem dCallF_mono {i : Nat} {t : FSpec} {a : DA} (mt : MonoF t) (ma : MonoK a) : MonoK (dCallF i t a) := fun Γ W W' m h => by
  unfold dCallF at h ⊢
  split at h
  · exact ma Γ _ _ (fun ds Γ1 q => by
      split at q
      · exact mt _ ds _ _ (fun z es w => m z _ w) q
      · exact q) h
  · exact ma Γ _ _ (fun ds Γ1 q => by
      split at q
      · exact mt _ ds _ _ (fun z es w => m z _ w) q
      · exact q) h
  · exact h
theorem Rep.called {i : Nat} {fs es : List PyData} {a : Addr} {xs' : List V} {H' D' : Hp} (r : Rep K R σ H Γ D) (hi : Γ[i]? = some (some (Ent.own fs))) (hs : σ[i]? = some (some (V.ref a))) (g : GrowBut a D H D' H') (ha : H' a = some (.lst xs')) (hx : DpAll K D' xs' es) :
    Rep K R σ H' (Γ.set i (some (Ent.own es))) D' ∧ Step σ Γ D H (Γ.set i (some (Ent.own es))) D' H' := by
  obtain ⟨a', xs, q1, q2, q3, q4, q5⟩ := r.own i fs hi
  rw [hs] at q1
  obtain rfl : a = a' := by cases q1; rfl
  have c := r.chg hi hs q2 q4
  have nD : ∀ b o, H b = some o → D b = none → D' b = none := fun b o h n => by
    cases q : D' b with
    | none => rfl
    | some u =>
      rcases g.new b u q with z | z
      · rw [n] at z; cases z
      · rw [h] at z; cases z
  have hDa : D' a = none := nD a _ q2 q3
  -- as if the heap had grown first, then the list been changed
  have g1 : Grow D H D' (fun b => if b = a then H a else H' b) := by
    refine ⟨fun b o e => ?_, g.d, fun b o e => ?_, g.new⟩
    · by_cases hb : b = a
      · subst hb; show (if _ then _ else _) = _; rw [if_pos rfl]; exact e
      · show (if _ then _ else _) = _; rw [if_neg hb]; exact g.h b o e hb
    · have hb : b ≠ a := fun z => by subst z; rw [hDa] at e; cases e
      show (if _ then _ else _) = _; rw [if_neg hb]; exact g.sub b o e
  have r1 := r.grow g1
  have e1 : (fun b => if b = a then H a else H' b) a = some (.lst xs) := by show (if _ then _ else _) = _; rw [if_pos rfl]; exact q2
  have c1 := r1.chg hi hs e1 hx
  have e2 : upd (fun b => if b = a then H a else H' b) a (.lst xs') = H' := by
    funext b
    by_cases hb : b = a
    · subst hb; rw [upd_same, ha]
    · rw [upd_ne hb]; show (if _ then _ else _) = _; rw [if_neg hb]
  rw [e2] at c1
  exact ⟨c1.1, g1.step.trans c1.2⟩
theorem Rep.calledA {i : Nat} {fs es : List PyData} {a : Addr} {xs' : List V} {H' D' : Hp} (r : Rep K R σ H Γ D) (hi : Γ[i]? = some (some (Ent.arg fs))) (hs : σ[i]? = some (some (V.ref a))) (g : GrowBut a D H D' H') (ha : H' a = some (.lst xs')) (hx : DpAll K D' xs' es) :
    Rep K R σ H' (Γ.set i (some (Ent.arg es))) D' ∧ Step σ Γ D H (Γ.set i (some (Ent.arg es))) D' H' := by
  obtain ⟨a', xs, q0, q1, q2, q3, q4⟩ := r.arg i fs hi
  rw [hs] at q1
  obtain rfl : a = a' := by cases q1; rfl
  have nD : ∀ b o, H b = some o → D b = none → D' b = none := fun b o h n => by
    cases q : D' b with
    | none => rfl
    | some u =>
      rcases g.new b u q with z | z
      · rw [n] at z; cases z
      · rw [h] at z; cases z
  have hDa : D' a = none := nD a _ q2 q3
  have g1 : Grow D H D' (fun b => if b = a then H a else H' b) := by
    refine ⟨fun b o e => ?_, g.d, fun b o e => ?_, g.new⟩
    · by_cases hb : b = a
      · subst hb; show (if _ then _ else _) = _; rw [if_pos rfl]; exact e
      · show (if _ then _ else _) = _; rw [if_neg hb]; exact g.h b o e hb
    · have hb : b ≠ a := fun z => by subst z; rw [hDa] at e; cases e
      show (if _ then _ else _) = _; rw [if_neg hb]; exact g.sub b o e
  have r1 := r.grow g1
  have e1 : (fun b => if b = a then H a else H' b) a = some (.lst xs) := by show (if _ then _ else _) = _; rw [if_pos rfl]; exact q2
  have c1 := r1.chgA hi hs e1 hx
  have e2 : upd (fun b => if b = a then H a else H' b) a (.lst xs') = H' := by
    funext b
    by_cases hb : b = a
    · subst hb; rw [upd_same, ha]
    · rw [upd_ne hb]; show (if _ then _ else _) = _; rw [if_neg hb]
  rw [e2] at c1
  exact ⟨c1.1, g1.step.trans c1.2⟩
theorem pde_callF {CX : CXT} {k : Nat} {f : Addr} {fd : FuncData} {ps : List Str} {t : FSpec} {E : XK} {x y : Str} {p py pos : Pos} {es : List Expr} {a : DA} (i : Nat) (mt : MonoF t) (F : FnOk X.prog X.w X.K X.mg X.base CX k f fd ps (spF X.K t)) (hr : Room k X.A) (hm : X.mg x = some (.ref f)) (hk : PySem.W.keepIn X.K (.ref f) = true) (hb : Binds X.K fd ps []) (hx : Passes CX X E)
    (ha : PDA X R es a) (hN : X.N[i]? = some y := by rfl) (hv : Vis X.env.scope y := by first | exact Or.inl rfl | exact Or.inr (Or.inl rfl) | exact Or.inr (Or.inr rfl)) (hd : (y == ("__debug__" : Str)) = false := by decide)
    (hcd : (y == ("__classdict__" : Str)) = false := by decide) (hg : Gl X x := by rfl) (hdb : (x == ("__debug__" : Str)) = false := by decide) (hs1 : starEach (.Name y py :: es) X.env = (false, eval (.Name y py) X.env) :: starEach es X.env := by rfl) (hpl : (backTo pos (starEach es X.env)).any (·.1) = false := by rfl) :
    PDE X R (.Call (.Name x p) (.Name y py :: es) [] pos) (dCallF i t a) := by
  refine ⟨pe_imp (pe_call F hr hg hm hk hb .nil hx (pa_cons (pe_var hN hv hd hcd) ha.pa hs1) hdb hs1 hpl) fun σ H Q ⟨Γ, D, r, q⟩ => ?_, dCallF_mono mt ha.mono⟩
  unfold dCallF at q
  split at q
  · rename_i fs0 e0
    obtain ⟨b, xs0, o1, o2, o3, o4, o5⟩ := r.own i fs0 e0
    refine ⟨.ref b, o1, goA r ha.mono q fun ds Γ1 vs H1 D1 h1 r1 s1 q1 => ?_⟩
    show spF X.K t ((V.ref b :: vs) ++ []) H1 Q E
    rw [List.append_nil]
    split at h1
    · rename_i fs e1
      obtain ⟨b', xs, p1, p2, p3, p4, p5⟩ := r1.own i fs e1
      rw [o1] at p1
      obtain rfl : b = b' := by cases p1; rfl
      refine ⟨D1, b, xs, fs, vs, ds, rfl, r1.sub, p2, p3, p4, q1, mt fs ds _ _ (fun z es w v H' D' xs' g ha' hx' dp => ?_) h1⟩
      obtain ⟨r2, s2⟩ := r1.called e1 o1 g ha' hx'
      exact w v H' D' r2 (s1.trans s2) dp
    · exact h1.elim
  · rename_i fs0 e0
    obtain ⟨b, xs0, o0, o1, o2, o3, o4⟩ := r.arg i fs0 e0
    refine ⟨.ref b, o1, goA r ha.mono q fun ds Γ1 vs H1 D1 h1 r1 s1 q1 => ?_⟩
    show spF X.K t ((V.ref b :: vs) ++ []) H1 Q E
    rw [List.append_nil]
    split at h1
    · rename_i fs e1
      obtain ⟨b', xs, p0, p1, p2, p3, p4⟩ := r1.arg i fs e1
      rw [o1] at p1
      obtain rfl : b = b' := by cases p1; rfl
      refine ⟨D1, b, xs, fs, vs, ds, rfl, r1.sub, p2, p3, p4, q1, mt fs ds _ _ (fun z es w v H' D' xs' g ha' hx' dp => ?_) h1⟩
      obtain ⟨r2, s2⟩ := r1.calledA e1 o1 g ha' hx'
      exact w v H' D' r2 (s1.trans s2) dp
    · exact h1.elim
  · exact q.elim


def dSee (i : Nat) (f : List PyData → (PyData → Prop) → Prop) : DE := fun Γ Q => match Γ[i]? with
  | some (some (Ent.own ds)) => f ds fun d => Q d Γ
  | some (some (Ent.arg ds)) => f ds fun d => Q d Γ
  | _ => False
def dAppend (i : Nat) (a : DE) : DS := fun E Γ => match Γ[i]? with
  | some (some (Ent.own _)) => a Γ fun d Γ1 => match Γ1[i]? with
    | some (some (Ent.own ds)) => ds.length < 1000000 ∧ E.nx (Γ1.set i (some (Ent.own (ds ++ [d]))))
    | _ => False
  | _ => False
theorem tyV_list {a : Addr} {xs : List V} (h : H a = some (.lst xs)) : tyV K "list" (.ref a) H := .inl ⟨rfl, _, SqL.of h⟩
theorem pds_append {y : Str} {py apos cpos pos : Pos} {e : Expr} {a : DE} (i : Nat) (he : PDE X R e a) (hN : X.N[i]? = some y := by rfl) (hv : Vis X.env.scope y := by first | exact Or.inl rfl | exact Or.inr (Or.inl rfl) | exact Or.inr (Or.inr rfl)) (hd : (y == ("__debug__" : Str)) = false := by decide)
    (hcd : (y == ("__classdict__" : Str)) = false := by decide) (hbase : attributeBase (.Name y py) "append" X.env (eval (.Name y py) X.env) = eval (.Name y py) X.env := by rfl)
    (hfew : ((backTo cpos (starEach [e] X.env)).all (fun x => !x.1) && (backToKw cpos (keywordEach [] X.env)).all (fun x => x.1.isSome) && decide ([e].length + ([] : List Keyword).length + (if ([] : List Keyword).isEmpty then 0 else 1) < 30)) = true := by rfl)
    (hline : (apos.endLine == cpos.line) = true := by rfl) (hs : starEach [e] X.env = (false, eval e X.env) :: starEach [] X.env := by rfl) (hplain : (backTo cpos (starEach [] X.env)).any (·.1) = false := by rfl)
    (hsw : swapsWith (.Call (.Attribute (.Name y py) "append" apos) [e] [] cpos) none pos.line X.env = pure false := by rfl) :
    PDS X R (.Expr (.Call (.Attribute (.Name y py) "append" apos) [e] [] cpos) pos) (dAppend i a) := by
  refine ⟨ps_imp (ps_expr (pe_bm PySem.F.plainAttrs_list PySem.F.slot_list_append PySem.F.type_list_append mt_append (pe_var hN hv hd hcd) (pa_cons he.pe pa_nil hs) hbase hfew hline hs hplain) hsw) fun E σ H ⟨Γ, D, r, q⟩ => ?_, fun E E' Γ l h => ?_⟩
  · unfold dAppend at q
    split at q
    · rename_i fs0 e0
      obtain ⟨b, xs0, o1, o2, o3, o4, o5⟩ := r.own i fs0 e0
      refine ⟨.ref b, o1, tyV_list o2, goE r he.mono q fun d Γ1 v H1 D1 h1 r1 s1 q1 => ?_⟩
      split at h1
      · rename_i fs e1
        obtain ⟨b', xs, p1, p2, p3, p4, p5⟩ := r1.own i fs e1
        rw [o1] at p1
        obtain rfl : b = b' := by cases p1; rfl
        refine ⟨b, xs, v, rfl, rfl, p2, by rw [dpAll_len p4]; exact Nat.lt_of_lt_of_le h1.1 (by decide), ?_⟩
        obtain ⟨r2, s2⟩ := r1.chg e1 o1 p2 (dpAll_app p4 (.cons q1 .nil))
        exact h1.2 σ _ _ r2 (s1.d.trans s2.d)
      · exact h1.elim
    · exact q.elim
  · unfold dAppend at h ⊢
    split at h
    · exact he.mono Γ _ _ (fun d Γ1 q => by
        split at q
        · exact ⟨q.1, l.nx _ q.2⟩
        · exact q) h
    · exact h
def dPop (i : Nat) : DE := fun Γ Q => match Γ[i]? with
  | some (some (Ent.own ds)) => ∃ d, ds[ds.length - 1]? = some d ∧ Q d (Γ.set i (some (Ent.own ds.dropLast)))
  | _ => False
theorem pde_pop {y : Str} {py apos cpos : Pos} (i : Nat) (hN : X.N[i]? = some y := by rfl) (hv : Vis X.env.scope y := by first | exact Or.inl rfl | exact Or.inr (Or.inl rfl) | exact Or.inr (Or.inr rfl)) (hd : (y == ("__debug__" : Str)) = false := by decide)
    (hcd : (y == ("__classdict__" : Str)) = false := by decide) (hbase : attributeBase (.Name y py) "pop" X.env (eval (.Name y py) X.env) = eval (.Name y py) X.env := by rfl) (hline : (apos.endLine == cpos.line) = true := by rfl) :
    PDE X R (.Call (.Attribute (.Name y py) "pop" apos) [] [] cpos) (dPop i) := by
  refine ⟨pe_imp (pe_bm0 PySem.F.plainAttrs_list PySem.F.slot_list_pop PySem.F.type_list_pop mt_pop (pe_var hN hv hd hcd) hbase hline) fun σ H Q ⟨Γ, D, r, q⟩ => ?_, fun Γ W W' m h => ?_⟩
  · unfold dPop at q
    split at q
    · rename_i fs e0
      obtain ⟨b, xs, o1, o2, o3, o4, o5⟩ := r.own i fs e0
      obtain ⟨d, hd', q⟩ := q
      obtain ⟨v, hv', dv⟩ := dpAll_get o4 hd'
      refine ⟨.ref b, o1, tyV_list o2, b, xs, v, rfl, rfl, o2, by rw [dpAll_len o4]; exact hv', ?_⟩
      obtain ⟨r2, s2⟩ := r.chg e0 o1 o2 (dpAll_dropLast o4)
      exact q v _ _ r2 s2 dv
    · exact q.elim
  · unfold dPop at h ⊢
    split at h
    · obtain ⟨d, e, q⟩ := h
      exact ⟨d, e, m _ _ q⟩
    · exact h
def dExtend (i : Nat) (a : DA) : DS := fun E Γ => match Γ[i]? with
  | some (some (Ent.own _)) => a Γ fun es Γ1 => match Γ1[i]? with
    | some (some (Ent.own ds)) => ds.length + es.length ≤ 1000000 ∧ E.nx (Γ1.set i (some (Ent.own (ds ++ es))))
    | _ => False
  | _ => False
theorem pds_extend {y : Str} {py apos cpos pos : Pos} {e : Expr} {a : DA} (i : Nat) (he : PDL X R e a) (hN : X.N[i]? = some y := by rfl) (hv : Vis X.env.scope y := by first | exact Or.inl rfl | exact Or.inr (Or.inl rfl) | exact Or.inr (Or.inr rfl)) (hd : (y == ("__debug__" : Str)) = false := by decide)
    (hcd : (y == ("__classdict__" : Str)) = false := by decide) (hbase : attributeBase (.Name y py) "extend" X.env (eval (.Name y py) X.env) = eval (.Name y py) X.env := by rfl)
    (hfew : ((backTo cpos (starEach [e] X.env)).all (fun x => !x.1) && (backToKw cpos (keywordEach [] X.env)).all (fun x => x.1.isSome) && decide ([e].length + ([] : List Keyword).length + (if ([] : List Keyword).isEmpty then 0 else 1) < 30)) = true := by rfl)
    (hline : (apos.endLine == cpos.line) = true := by rfl) (hs : starEach [e] X.env = (false, eval e X.env) :: starEach [] X.env := by rfl) (hplain : (backTo cpos (starEach [] X.env)).any (·.1) = false := by rfl)
    (hsw : swapsWith (.Call (.Attribute (.Name y py) "extend" apos) [e] [] cpos) none pos.line X.env = pure false := by rfl) :
    PDS X R (.Expr (.Call (.Attribute (.Name y py) "extend" apos) [e] [] cpos) pos) (dExtend i a) := by
  refine ⟨ps_imp (ps_expr (pe_bm PySem.F.plainAttrs_list PySem.F.slot_list_extend PySem.F.type_list_extend mt_extend (pe_var hN hv hd hcd) (pa_cons he.pl pa_nil hs) hbase hfew hline hs hplain) hsw) fun E σ H ⟨Γ, D, r, q⟩ => ?_, fun E E' Γ l h => ?_⟩
  · unfold dExtend at q
    split at q
    · rename_i fs0 e0
      obtain ⟨b, xs0, o1, o2, o3, o4, o5⟩ := r.own i fs0 e0
      refine ⟨.ref b, o1, tyV_list o2, goL r he.mono q fun es Γ1 p zs H1 D1 h1 r1 s1 hp hp1 hD1 nm q1 => ?_⟩
      split at h1
      · rename_i fs e1
        obtain ⟨b', xs, p1, p2, p3, p4, p5⟩ := r1.own i fs e1
        rw [o1] at p1
        obtain rfl : b = b' := by cases p1; rfl
        refine ⟨b, p, xs, zs, rfl, rfl, p2, hp1, by rw [dpAll_len p4, dpAll_len q1]; exact szM h1.1, ?_⟩
        obtain ⟨r2, s2⟩ := r1.chg e1 o1 p2 (dpAll_app p4 q1)
        exact h1.2 σ _ _ r2 (s1.d.trans s2.d)
      · exact h1.elim
    · exact q.elim
  · unfold dExtend at h ⊢
    split at h
    · exact he.mono Γ _ _ (fun d Γ1 q => by
        split at q
        · exact ⟨q.1, l.nx _ q.2⟩
        · exact q) h
    · exact h
def dSetItem (i : Nat) (b : DE) (a : DE) : DS := fun E Γ => a Γ fun d Γ1 => match Γ1[i]? with
  | some (some (Ent.own _)) => b Γ1 fun n Γ2 => match n, Γ2[i]? with
    | .int j, some (some (Ent.own ds)) => 0 ≤ j ∧ j < ds.length ∧ E.nx (Γ2.set i (some (Ent.own (ds.set j.toNat d))))
    | _, _ => False
  | some (some (Ent.arg _)) => b Γ1 fun n Γ2 => match n, Γ2[i]? with
    | .int j, some (some (Ent.arg ds)) => 0 ≤ j ∧ j < ds.length ∧ E.nx (Γ2.set i (some (Ent.arg (ds.set j.toNat d))))
    | _, _ => False
  | _ => False
theorem ixN_nat {n : Nat} {j : Int} (h0 : 0 ≤ j) (h : j < n) : ixN n j = some j.toNat := by unfold ixN; rw [if_pos h0, if_pos h]
theorem pds_setItem {y : Str} {py spos pos : Pos} {ix e : Expr} {a b : DE} (i : Nat) (he : PDE X R e a) (hix : PDE X R ix b) (hN : X.N[i]? = some y := by rfl) (hv : Vis X.env.scope y := by first | exact Or.inl rfl | exact Or.inr (Or.inl rfl) | exact Or.inr (Or.inr rfl)) (hd : (y == ("__debug__" : Str)) = false := by decide)
    (hcd : (y == ("__classdict__" : Str)) = false := by decide)
    (hasn : ∀ v, assign (.Subscript (.Name y py) ix spos) X.env v = (do
      let ov ← holding [v] (eval (.Name y py) X.env)
      let iv ← holding [v, ov] (eval ix X.env)
      standAt spos
      holding [v, ov, iv] (setItem ov iv v) -- k09
      release [v, ov, iv] []) := by intro _; rfl)
    (hs : swapsWithSole [.Subscript (.Name y py) ix spos] e pos.line X.env = pure false := by rfl) (hw : swappedStores [.Subscript (.Name y py) ix spos] e X.env = pure none := by rfl)
    (h1 : (assignEach [.Subscript (.Name y py) ix spos] X.env).map (·.2) = [assign (.Subscript (.Name y py) ix spos) X.env] := by rfl) :
    PDS X R (.Assign [.Subscript (.Name y py) ix spos] e pos) (dSetItem i b a) := by
  refine ⟨ps_imp (ps_asg he.pe (pg_sub (pe_var hN hv hd hcd) hix.pe set_list hasn) hs hw h1) fun E σ H ⟨Γ, D, r, q⟩ => ?_, fun E E' Γ l h => ?_⟩
  · refine goE r he.mono q fun d Γ1 v H1 D1 h1 r1 s1 q1 => ?_
    split at h1
    · rename_i fs0 e0
      obtain ⟨c, xs0, o1, o2, o3, o4, o5⟩ := r1.own i fs0 e0
      refine ⟨.ref c, o1, goE r1 hix.mono h1 fun n Γ2 w H2 D2 h2 r2 s2 q2 => ?_⟩
      split at h2
      · rename_i j fs e1
        cases q2
        obtain ⟨c', xs, p1, p2, p3, p4, p5⟩ := r2.own i fs e1
        rw [o1] at p1
        obtain rfl : c = c' := by cases p1; rfl
        refine ⟨c, xs, j, j.toNat, rfl, rfl, p2, ixN_nat h2.1 (by rw [dpAll_len p4]; exact h2.2.1), ?_⟩
        obtain ⟨r3, s3⟩ := r2.chg e1 o1 p2 (dpAll_set (i := j.toNat) p4 (dp_mono s2.d q1))
        exact h2.2.2 σ _ _ r3 (s1.d.trans (s2.d.trans s3.d))
      · exact h2.elim
    · rename_i fs0 e0
      obtain ⟨c, xs0, o0, o1, o2, o3, o4⟩ := r1.arg i fs0 e0
      refine ⟨.ref c, o1, goE r1 hix.mono h1 fun n Γ2 w H2 D2 h2 r2 s2 q2 => ?_⟩
      split at h2
      · rename_i j fs e1
        cases q2
        obtain ⟨c', xs, p0, p1, p2, p3, p4⟩ := r2.arg i fs e1
        rw [o1] at p1
        obtain rfl : c = c' := by cases p1; rfl
        refine ⟨c, xs, j, j.toNat, rfl, rfl, p2, ixN_nat h2.1 (by rw [dpAll_len p4]; exact h2.2.1), ?_⟩
        obtain ⟨r3, s3⟩ := r2.chgA e1 o1 p2 (dpAll_set (i := j.toNat) p4 (dp_mono s2.d q1))
        exact h2.2.2 σ _ _ r3 (s1.d.trans (s2.d.trans s3.d))
      · exact h2.elim
    · exact h1.elim
  · refine he.mono Γ _ _ (fun d Γ1 q => ?_) h
    split at q
    · refine hix.mono Γ1 _ _ (fun n Γ2 q2 => ?_) q
      split at q2
      · exact ⟨q2.1, q2.2.1, l.nx _ q2.2.2⟩
      · exact q2
    · refine hix.mono Γ1 _ _ (fun n Γ2 q2 => ?_) q
      split at q2
      · exact ⟨q2.1, q2.2.1, l.nx _ q2.2.2⟩
      · exact q2
    · exact q
def dTruO (i : Nat) : DT := fun Γ Q => match Γ[i]? with
  | some (some (Ent.own ds)) => Q (!ds.isEmpty) Γ
  | _ => False
theorem dpAll_empty {xs : List V} {ds : List PyData} (h : DpAll K D xs ds) : (!xs.isEmpty) = !ds.isEmpty := by
  cases ds with
  | nil => cases h; rfl
  | cons a b => cases h; rfl
theorem pdt_truO {y : Str} {py : Pos} (i : Nat) (hN : X.N[i]? = some y := by rfl) (hv : Vis X.env.scope y := by first | exact Or.inl rfl | exact Or.inr (Or.inl rfl) | exact Or.inr (Or.inr rfl)) (hd : (y == ("__debug__" : Str)) = false := by decide)
    (hcd : (y == ("__classdict__" : Str)) = false := by decide) (he : ∀ whole, isTrue (.Name y py) X.env whole = (do let v ← whole; standAt (Expr.pos (.Name y py)); holding [v] (truthy v)) := by intro _; rfl) : PDT X R (.Name y py) (dTruO i) := by
  refine ⟨pt_imp (pt_truth (pe_var hN hv hd hcd) he) fun σ H Q ⟨Γ, D, r, q⟩ => ?_, fun Γ W W' m h => ?_⟩
  · unfold dTruO at q
    split at q
    · rename_i fs e0
      obtain ⟨b, xs, o1, o2, o3, o4, o5⟩ := r.own i fs e0
      refine ⟨.ref b, o1, _, .inl ⟨xs, SqL.of o2, rfl⟩, ?_⟩
      rw [dpAll_empty o4]
      exact q H D r Step.refl
    · exact q.elim
  · unfold dTruO at h ⊢
    split at h
    · exact m _ _ h
    · exact h
end
end DL

set_option Elab.async false
set_option linter.all false
set_option maxRecDepth 100000
set_option maxHeartbeats 1000000
namespace DL
open PySem PySem.Spec PyProof.Rows L2


section
variable {X : Cx} {R : Root} {K : PySem.W.Frag} {σ : L2.St} {H D : Hp} {Γ : DEnv}
theorem bool_out {z : Bool} {Q : VK} (u : Sub D H) (h : ∀ v H' D', Grow D H D' H' → Dp K D' v (.bool z) → Q v H') : Q (.bl z) H := h _ H D (Grow.refl u) (.bl z)
theorem int_out {z : Int} {Q : VK} (u : Sub D H) (h : ∀ v H' D', Grow D H D' H' → Dp K D' v (.int z) → Q v H') : Q (.int z) H := h _ H D (Grow.refl u) (.int z)
theorem str_out {z : Str} {Q : VK} (u : Sub D H) (h : ∀ v H' D', Grow D H D' H' → Dp K D' v (.str z) → Q v H') : Q (.str z) H := h _ H D (Grow.refl u) (.str z)
def bInt (g : Int → Int → Int) (C : Int → Int → Prop) : PyData → PyData → (PyData → Prop) → Prop := fun d e Q => match d, e with | .int i, .int j => C i j ∧ Q (.int (g i j)) | _, _ => False
theorem bInt_mono {g C} : MonoB (bInt g C) := fun d e W W' m h => by
  unfold bInt at h ⊢
  split at h
  · exact ⟨h.1, m _ h.2⟩
  · exact h
theorem bInt_ok {g C} : OpD K (rI C fun i j => .int (g i j)) (bInt g C) := fun D H x y d e Q u hx hy h => by
  unfold bInt at h
  split at h
  · cases hx
    cases hy
    exact ⟨_, _, rfl, rfl, h.1, int_out u h.2⟩
  · exact h.elim
def rAddX (K : PySem.W.Frag) : R2 := fun x y H Q => (rI0 (fun i j => .int (i + j))) x y H Q ∨ (fun x y H Q => ∃ i j, x = .str i ∧ y = .str j ∧ i.length + j.length ≤ sizeLine ∧ Q (.str (i ++ j)) H) x y H Q ∨ rCatA K x y H Q
theorem op_addX : OpR X (binaryOp .Add) (rAddX X.K) := op_add.or (op_add_str.or op_catA)
def bAdd : PyData → PyData → (PyData → Prop) → Prop := fun d e Q => match d, e with
  | .int i, .int j => Q (.int (i + j))
  | .str a, .str b => a.length + b.length ≤ 1000000 ∧ Q (.str (a ++ b))
  | .tuple xs, .tuple ys => xs.length + ys.length ≤ 1000000 ∧ Q (.tuple (xs ++ ys))
  | _, _ => False
theorem bAdd_mono : MonoB bAdd := fun d e W W' m h => by
  unfold bAdd at h ⊢
  split at h
  · exact m _ h
  · exact ⟨h.1, m _ h.2⟩
  · exact ⟨h.1, m _ h.2⟩
  · exact h
theorem dpAll_nil_iff {xs : List V} {ds : List PyData} (h : DpAll K D xs ds) : xs = [] ↔ ds = [] := by
  cases h with
  | nil => simp
  | cons _ _ => simp
theorem bAdd_ok : OpD K (rAddX K) bAdd := fun D H x y d e Q u hx hy h => by
  unfold bAdd at h
  split at h
  · cases hx
    cases hy
    exact .inl ⟨_, _, rfl, rfl, int_out u h⟩
  · cases hx
    cases hy
    exact .inr (.inl ⟨_, _, rfl, rfl, szM h.1, str_out u h.2⟩)
  · rename_i ds es
    cases hx with
    | tup sx ax =>
      rename_i a xs
      cases hy with
      | tup sy ay =>
        rename_i b ys
        refine .inr (.inr ⟨a, b, xs, ys, rfl, rfl, sqT_mono u sx, sqT_mono u sy, by rw [dpAll_len ax, dpAll_len ay]; exact szM h.1, fun e1 => ?_, fun n1 e2 => ?_, fun n1 n2 p hp => ?_⟩)
        · have e1' := (dpAll_nil_iff ax).mp e1
          subst e1'
          exact h.2 _ H D (Grow.refl u) (.tup sy ay)
        · have e2' := (dpAll_nil_iff ay).mp e2
          subst e2'
          rw [List.append_nil] at h
          exact h.2 _ H D (Grow.refl u) (.tup sx ax)
        · have g := Grow.upd (o := .tup (xs ++ ys)) u hp
          exact h.2 _ _ _ g (.tup (SqT.of upd_same) (dpAll_app (dpAll_mono g.d ax) (dpAll_mono g.d ay)))
  · exact h.elim
theorem pde_add {a b : Expr} {pos : Pos} {da db : DE} (ha : PDE X R a da) (hb : PDE X R b db) : PDE X R (.BinOp a .Add b pos) (dOp bAdd da db) := pd_op op_addX bAdd_ok bAdd_mono ha hb
theorem rI0_I {g : Int → Int → V} : ∀ (x y : V) (H : Hp) (Q : VK), rI (fun _ _ => True) g x y H Q → rI0 g x y H Q := fun x y H Q ⟨i, j, e1, e2, _, q⟩ => ⟨i, j, e1, e2, q⟩
theorem opD_imp {r r' : R2} {b : PyData → PyData → (PyData → Prop) → Prop} (h : OpD K r b) (i : ∀ x y H Q, r x y H Q → r' x y H Q) : OpD K r' b := fun D H x y d e Q u hx hy q => i _ _ _ _ (h D H x y d e Q u hx hy q)
theorem pde_sub {a b : Expr} {pos : Pos} {da db : DE} (ha : PDE X R a da) (hb : PDE X R b db) : PDE X R (.BinOp a .Sub b pos) (dOp (bInt (fun i j => i - j) fun _ _ => True) da db) := pd_op op_sub (opD_imp bInt_ok rI0_I) bInt_mono ha hb
theorem pde_mul {a b : Expr} {pos : Pos} {da db : DE} (ha : PDE X R a da) (hb : PDE X R b db) : PDE X R (.BinOp a .Mult b pos) (dOp (bInt (fun i j => i * j) CMul) da db) := pd_op op_mul bInt_ok bInt_mono ha hb
theorem pde_mod {a b : Expr} {pos : Pos} {da db : DE} (ha : PDE X R a da) (hb : PDE X R b db) : PDE X R (.BinOp a .Mod b pos) (dOp (bInt (fun i j => i % j) fun _ j => 0 < j) da db) := pd_op op_mod bInt_ok bInt_mono ha hb
theorem pde_pow {a b : Expr} {pos : Pos} {da db : DE} (ha : PDE X R a da) (hb : PDE X R b db) : PDE X R (.BinOp a .Pow b pos) (dOp (bInt (fun i j => i ^ j.toNat) CPow) da db) := pd_op op_pow bInt_ok bInt_mono ha hb
def dNeg (a : DE) : DE := fun Γ Q => a Γ fun d Γ1 => match d with | .int i => Q (.int (-i)) Γ1 | _ => False
theorem pde_neg {a : Expr} {pos : Pos} {da : DE} (ha : PDE X R a da) : PDE X R (.UnaryOp .USub a pos) (dNeg da) := by
  refine ⟨pe_imp (pe_un un_neg ha.pe) fun σ H Q ⟨Γ, D, r, q⟩ => ?_, fun Γ W W' m h => ha.mono Γ _ _ (fun d Γ1 q => by cases d <;> first | exact m _ _ q | exact q) h⟩
  refine goE r ha.mono q fun d Γ1 v H1 D1 h1 r1 s1 q1 => ?_
  cases q1 with
  | int i => exact ⟨i, rfl, h1 _ H1 D1 r1 s1 (.int _)⟩
  | non => exact h1.elim
  | bl _ => exact h1.elim
  | str _ => exact h1.elim
  | lst _ _ => exact h1.elim
  | tup _ _ => exact h1.elim

def bEq : PyData → PyData → (PyData → Prop) → Prop := fun d e Q => SeqAt.shaped d = true ∧ SeqAt.shaped e = true ∧ Q (.bool (PyData.eqv d e))
def bNe : PyData → PyData → (PyData → Prop) → Prop := fun d e Q => SeqAt.shaped d = true ∧ SeqAt.shaped e = true ∧ Q (.bool (!PyData.eqv d e))
theorem bEq_mono : MonoB bEq := fun d e W W' m h => ⟨h.1, h.2.1, m _ h.2.2⟩
theorem bNe_mono : MonoB bNe := fun d e W W' m h => ⟨h.1, h.2.1, m _ h.2.2⟩
theorem bEq_ok : OpD K (rEqD K) bEq := fun D H x y d e Q u hx hy h => ⟨d, e, dp_l2 (dp_mono u hx), dp_l2 (dp_mono u hy), h.1, h.2.1, bool_out u h.2.2⟩
theorem bNe_ok : OpD K (rNeD K) bNe := fun D H x y d e Q u hx hy h => ⟨d, e, dp_l2 (dp_mono u hx), dp_l2 (dp_mono u hy), h.1, h.2.1, bool_out u h.2.2⟩
theorem pde_eq {a b : Expr} {pos : Pos} {da db : DE} (hu : X.A.units + 64 < cLine) (ha : PDE X R a da) (hb : PDE X R b db) : PDE X R (.Compare a [.Eq] [b] pos) (dOp bEq da db) := pd_cmp (op_eqD hu) bEq_ok bEq_mono ha hb (nomark _)
theorem pde_ne {a b : Expr} {pos : Pos} {da db : DE} (hu : X.A.units + 64 < cLine) (ha : PDE X R a da) (hb : PDE X R b db) : PDE X R (.Compare a [.NotEq] [b] pos) (dOp bNe da db) := pd_cmp (op_neD hu) bNe_ok bNe_mono ha hb (nomark _)
theorem pdt_eq {a b : Expr} {pos : Pos} {da db : DE} (hu : X.A.units + 64 < cLine) (ha : PDE X R a da) (hb : PDE X R b db) : PDT X R (.Compare a [.Eq] [b] pos) (dTest (dOp bEq da db)) := pdt_cmp (op_eqD hu) bEq_ok bEq_mono ha hb (nomark _)
theorem pdt_ne {a b : Expr} {pos : Pos} {da db : DE} (hu : X.A.units + 64 < cLine) (ha : PDE X R a da) (hb : PDE X R b db) : PDT X R (.Compare a [.NotEq] [b] pos) (dTest (dOp bNe da db)) := pdt_cmp (op_neD hu) bNe_ok bNe_mono ha hb (nomark _)
def isNone : PyData → Bool | .none => true | _ => false
def bIs : PyData → PyData → (PyData → Prop) → Prop := fun d e Q => e = .none ∧ Q (.bool (isNone d))
def bIsNot : PyData → PyData → (PyData → Prop) → Prop := fun d e Q => e = .none ∧ Q (.bool (!isNone d))
theorem bIs_mono : MonoB bIs := fun d e W W' m h => ⟨h.1, m _ h.2⟩
theorem bIsNot_mono : MonoB bIsNot := fun d e W W' m h => ⟨h.1, m _ h.2⟩
theorem none_dec {x : V} {d : PyData} (h : Dp K D x d) : decide (x = .non) = isNone d := by cases h <;> rfl
theorem bIs_ok : OpD K (fun x y H Q => y = .non ∧ Q (.bl (decide (x = .non))) H) bIs := fun D H x y d e Q u hx hy h => by
  obtain ⟨e1, h⟩ := h
  subst e1
  cases hy
  exact ⟨rfl, by rw [none_dec hx]; exact bool_out u h⟩
theorem bIsNot_ok : OpD K (fun x y H Q => y = .non ∧ Q (.bl (!decide (x = .non))) H) bIsNot := fun D H x y d e Q u hx hy h => by
  obtain ⟨e1, h⟩ := h
  subst e1
  cases hy
  exact ⟨rfl, by rw [none_dec hx]; exact bool_out u h⟩
theorem pde_is {a b : Expr} {pos : Pos} {da db : DE} (ha : PDE X R a da) (hb : PDE X R b db) : PDE X R (.Compare a [.Is] [b] pos) (dOp bIs da db) := pd_cmp op_isN bIs_ok bIs_mono ha hb (nomark _)
theorem pdt_is {a b : Expr} {pos : Pos} {da db : DE} (ha : PDE X R a da) (hb : PDE X R b db) : PDT X R (.Compare a [.Is] [b] pos) (dTest (dOp bIs da db)) := pdt_cmp op_isN bIs_ok bIs_mono ha hb (nomark _)
theorem pde_isnot {a b : Expr} {pos : Pos} {da db : DE} (ha : PDE X R a da) (hb : PDE X R b db) : PDE X R (.Compare a [.IsNot] [b] pos) (dOp bIsNot da db) := pd_cmp op_notN bIsNot_ok bIsNot_mono ha hb (nomark _)
theorem pdt_isnot {a b : Expr} {pos : Pos} {da db : DE} (ha : PDE X R a da) (hb : PDE X R b db) : PDT X R (.Compare a [.IsNot] [b] pos) (dTest (dOp bIsNot da db)) := pdt_cmp op_notN bIsNot_ok bIsNot_mono ha hb (nomark _)
def bOrd (f : Int → Int → Bool) (g : List Nat → List Nat → Bool) : PyData → PyData → (PyData → Prop) → Prop := fun d e Q => match d, e with | .int i, .int j => Q (.bool (f i j)) | .str a, .str b => Q (.bool (g a.cps.toList b.cps.toList)) | _, _ => False
theorem bOrd_mono {f g} : MonoB (bOrd f g) := fun d e W W' m h => by
  unfold bOrd at h ⊢
  split at h
  · exact m _ h
  · exact m _ h
  · exact h
theorem bOrd_ok {f : Int → Int → Bool} {g : List Nat → List Nat → Bool} : OpD K (fun x y H Q => rI0 (fun i j => .bl (f i j)) x y H Q ∨ ∃ i j : Str, x = .str i ∧ y = .str j ∧ Q (.bl (g i.cps.toList j.cps.toList)) H) (bOrd f g) := fun D H x y d e Q u hx hy h => by
  unfold bOrd at h
  split at h
  · cases hx
    cases hy
    exact .inl ⟨_, _, rfl, rfl, bool_out u h⟩
  · cases hx
    cases hy
    exact .inr ⟨_, _, rfl, rfl, bool_out u h⟩
  · exact h.elim
abbrev bLt := bOrd (fun i j => decide (i < j)) (fun a b => decide (a < b))
abbrev bLe := bOrd (fun i j => decide (i ≤ j)) (fun a b => !decide (b < a))
abbrev bGt := bOrd (fun i j => decide (j < i)) (fun a b => decide (b < a))
abbrev bGe := bOrd (fun i j => decide (j ≤ i)) (fun a b => !decide (a < b))
theorem op_ltX : OpR X (compareOp .Lt) (fun x y H Q => rI0 (fun i j => .bl (decide (i < j))) x y H Q ∨ ∃ i j : Str, x = .str i ∧ y = .str j ∧ Q (.bl (decide (i.cps.toList < j.cps.toList))) H) := op_lt.or op_lt_str
theorem op_leX : OpR X (compareOp .LtE) (fun x y H Q => rI0 (fun i j => .bl (decide (i ≤ j))) x y H Q ∨ ∃ i j : Str, x = .str i ∧ y = .str j ∧ Q (.bl (!decide (j.cps.toList < i.cps.toList))) H) := op_le.or op_le_str
theorem op_gtX : OpR X (compareOp .Gt) (fun x y H Q => rI0 (fun i j => .bl (decide (j < i))) x y H Q ∨ ∃ i j : Str, x = .str i ∧ y = .str j ∧ Q (.bl (decide (j.cps.toList < i.cps.toList))) H) := op_gt.or op_gt_str
theorem op_geX : OpR X (compareOp .GtE) (fun x y H Q => rI0 (fun i j => .bl (decide (j ≤ i))) x y H Q ∨ ∃ i j : Str, x = .str i ∧ y = .str j ∧ Q (.bl (!decide (i.cps.toList < j.cps.toList))) H) := op_ge.or op_ge_str
theorem pde_lt {a b : Expr} {pos : Pos} {da db : DE} (ha : PDE X R a da) (hb : PDE X R b db) : PDE X R (.Compare a [.Lt] [b] pos) (dOp bLt da db) := pd_cmp op_ltX bOrd_ok bOrd_mono ha hb (nomark _)
theorem pde_le {a b : Expr} {pos : Pos} {da db : DE} (ha : PDE X R a da) (hb : PDE X R b db) : PDE X R (.Compare a [.LtE] [b] pos) (dOp bLe da db) := pd_cmp op_leX bOrd_ok bOrd_mono ha hb (nomark _)
theorem pde_gt {a b : Expr} {pos : Pos} {da db : DE} (ha : PDE X R a da) (hb : PDE X R b db) : PDE X R (.Compare a [.Gt] [b] pos) (dOp bGt da db) := pd_cmp op_gtX bOrd_ok bOrd_mono ha hb (nomark _)
theorem pde_ge {a b : Expr} {pos : Pos} {da db : DE} (ha : PDE X R a da) (hb : PDE X R b db) : PDE X R (.Compare a [.GtE] [b] pos) (dOp bGe da db) := pd_cmp op_geX bOrd_ok bOrd_mono ha hb (nomark _)
theorem pdt_lt {a b : Expr} {pos : Pos} {da db : DE} (ha : PDE X R a da) (hb : PDE X R b db) : PDT X R (.Compare a [.Lt] [b] pos) (dTest (dOp bLt da db)) := pdt_cmp op_ltX bOrd_ok bOrd_mono ha hb (nomark _)
theorem pdt_le {a b : Expr} {pos : Pos} {da db : DE} (ha : PDE X R a da) (hb : PDE X R b db) : PDT X R (.Compare a [.LtE] [b] pos) (dTest (dOp bLe da db)) := pdt_cmp op_leX bOrd_ok bOrd_mono ha hb (nomark _)
theorem pdt_gt {a b : Expr} {pos : Pos} {da db : DE} (ha : PDE X R a da) (hb : PDE X R b db) : PDT X R (.Compare a [.Gt] [b] pos) (dTest (dOp bGt da db)) := pdt_cmp op_gtX bOrd_ok bOrd_mono ha hb (nomark _)
theorem pdt_ge {a b : Expr} {pos : Pos} {da db : DE} (ha : PDE X R a da) (hb : PDE X R b db) : PDT X R (.Compare a [.GtE] [b] pos) (dTest (dOp bGe da db)) := pdt_cmp op_geX bOrd_ok bOrd_mono ha hb (nomark _)
def dChain (p q : PyData → PyData → (PyData → Prop) → Prop) (a b c : DE) : DE := fun Γ Q => a Γ fun x Γ1 => b Γ1 fun y Γ2 => p x y fun z => match z with | .bool true => c Γ2 fun w Γ3 => q y w fun r => Q r Γ3 | .bool false => Q (.bool false) Γ2 | _ => False
theorem dChain_mono {p q : PyData → PyData → (PyData → Prop) → Prop} {a b c : DE} (mp : MonoB p) (mq : MonoB q) (ma : MonoK a) (mb : MonoK b) (mc : MonoK c) : MonoK (dChain p q a b c) := fun Γ W W' m h =>
  ma Γ _ _ (fun x Γ1 h1 => mb Γ1 _ _ (fun y Γ2 h2 => mp x y _ _ (fun z h3 => by
    split at h3
    · exact mc Γ2 _ _ (fun w Γ3 h4 => mq y w _ _ (fun r h5 => m r Γ3 h5) h4) h3
    · exact m _ _ h3
    · exact h3) h2) h1) h
theorem chain_imp {r r' : R2} {p q : PyData → PyData → (PyData → Prop) → Prop} {a b c : DE} (hp : OpD K r p) (hq : OpD K r' q) (mp : MonoB p) (mq : MonoB q) (ma : MonoK a) (mb : MonoK b) (mc : MonoK c) {Q : VK} (w : liftE K R (dChain p q a b c) σ H Q) :
    tChain r r' (liftE K R a) (liftE K R b) (liftE K R c) σ H Q := by
  obtain ⟨Γ, D, r0, h⟩ := w
  refine goE r0 ma h fun x Γ1 v H1 D1 h1 r1 s1 q1 => ?_
  refine goE r1 mb h1 fun y Γ2 u H2 D2 h2 r2 s2 q2 => ?_
  refine hp D2 H2 v u x y _ r2.sub (dp_mono s2.d q1) q2 (mp x y _ _ (fun z h3 v' H' D' g q3 => ?_) h2)
  have r3 := r2.grow g
  have s3 := (s1.trans s2).trans g.step
  cases q3 with
  | bl k =>
    refine ⟨k, rfl, ?_⟩
    cases k with
    | true =>
      refine iteT (goE r3 mc h3 fun w Γ3 t H4 D4 h4 r4 s4 q4 => ?_)
      exact hq D4 H4 u t y w Q r4.sub (dp_mono (g.d.trans s4.d) q2) q4 (mq y w _ _ (fun z2 h5 v5 H5 D5 g5 q5 => h5 v5 H5 D5 (r4.grow g5) (s3.trans (s4.trans g5.step)) q5) h4)
    | false => exact iteF (h3 _ H' D' r3 s3 (.bl false))
  | non => exact h3.elim
  | int _ => exact h3.elim
  | str _ => exact h3.elim
  | lst _ _ => exact h3.elim
  | tup _ _ => exact h3.elim
theorem pde_chain {op op' : CmpOp} {r r' : R2} {p q : PyData → PyData → (PyData → Prop) → Prop} {a b c : Expr} {pos : Pos} {da db dc : DE} (ho : OpR X (compareOp op) r) (ho' : OpR X (compareOp op') r') (hp : OpD X.K r p) (hq : OpD X.K r' q) (mp : MonoB p) (mq : MonoB q)
    (ha : PDE X R a da) (hb : PDE X R b db) (hc : PDE X R c dc) (hm : lastMarks [op, op'] [b, c] = false := by rfl) : PDE X R (.Compare a [op, op'] [b, c] pos) (dChain p q da db dc) :=
  ⟨pe_imp (pe_chain ho ho' ha.pe hb.pe hc.pe (hm := hm)) fun _ _ _ w => chain_imp hp hq mp mq ha.mono hb.mono hc.mono w, dChain_mono mp mq ha.mono hb.mono hc.mono⟩
theorem pdt_chain {op op' : CmpOp} {r r' : R2} {p q : PyData → PyData → (PyData → Prop) → Prop} {a b c : Expr} {pos : Pos} {da db dc : DE} (ho : OpR X (compareOp op) r) (ho' : OpR X (compareOp op') r') (hp : OpD X.K r p) (hq : OpD X.K r' q) (mp : MonoB p) (mq : MonoB q)
    (ha : PDE X R a da) (hb : PDE X R b db) (hc : PDE X R c dc) (hm : lastMarks [op, op'] [b, c] = false := by rfl) : PDT X R (.Compare a [op, op'] [b, c] pos) (dTest (dChain p q da db dc)) := by
  refine ⟨pt_imp (pt_chain ho ho' ha.pe hb.pe hc.pe (hm := hm)) fun σ H Q w => ?_, dTest_mono (dChain_mono mp mq ha.mono hb.mono hc.mono)⟩
  obtain ⟨Γ, D, r0, h⟩ := w
  show tChain r r' (liftE X.K R da) (liftE X.K R db) (liftE X.K R dc) σ H fun x H' => ∃ k, x = .bl k ∧ Q k H'
  refine chain_imp hp hq mp mq ha.mono hb.mono hc.mono ⟨Γ, D, r0, dChain_mono mp mq ha.mono hb.mono hc.mono Γ _ _ (fun d Γ1 w v H' D' r' st q => ?_) h⟩
  cases q with
  | bl b => exact ⟨b, rfl, w H' D' r' st⟩
  | non => exact w.elim
  | int _ => exact w.elim
  | str _ => exact w.elim
  | lst _ _ => exact w.elim
  | tup _ _ => exact w.elim
def flatD : PyData → Bool | .none => true | .bool _ => true | .int _ => true | .str _ => true | _ => false
def inD (d : PyData) (ds : List PyData) : Bool := ds.any fun z => PyData.eqv z d
def bIn (neg : Bool) : PyData → PyData → (PyData → Prop) → Prop := fun d e Q => match e with
  | .list ds => flatD d = true ∧ ds.all flatD = true ∧ Q (.bool (if neg then !inD d ds else inD d ds))
  | .tuple ds => flatD d = true ∧ ds.all flatD = true ∧ Q (.bool (if neg then !inD d ds else inD d ds))
  | _ => False
theorem bIn_mono {neg} : MonoB (bIn neg) := fun d e W W' m h => by
  unfold bIn at h ⊢
  split at h
  · exact ⟨h.1, h.2.1, m _ h.2.2⟩
  · exact ⟨h.1, h.2.1, m _ h.2.2⟩
  · exact h
theorem flat_dp {x : V} {d : PyData} (h : Dp K D x d) (f : flatD d = true) : flatV x = true := by
  cases h <;> first | rfl | cases f
theorem eqV_dp {x y : V} {d e : PyData} (h : Dp K D x d) (f : flatD d = true) (h' : Dp K D y e) (f' : flatD e = true) : eqV x y = PyData.eqv d e := by
  cases h <;> first | cases f | skip
  all_goals (cases h' <;> first | cases f' | skip)
  all_goals first | rfl | simp [eqV, PyData.eqv]
theorem inV_dp {x : V} {d : PyData} (h : Dp K D x d) (f : flatD d = true) : ∀ {xs : List V} {ds : List PyData}, DpAll K D xs ds → ds.all flatD = true → (xs.all flatV = true ∧ inV x xs = inD d ds)
  | _, _, .nil, _ => ⟨rfl, rfl⟩
  | _, _, .cons a b, g => by
    rw [List.all_cons, Bool.and_eq_true] at g
    obtain ⟨h1, h2⟩ := inV_dp h f b g.2
    refine ⟨by rw [List.all_cons, flat_dp a g.1, h1]; rfl, ?_⟩
    unfold inV inD at h2 ⊢
    rw [List.any_cons, List.any_cons, eqV_dp a g.1 h f, h2]
theorem bIn_ok {neg} : OpD K (rIn K neg) (bIn neg) := fun D H x y d e Q u hx hy h => by
  unfold bIn at h
  split at h
  · cases hy with
    | lst s a =>
      obtain ⟨f1, f2⟩ := inV_dp hx h.1 a h.2.1
      exact ⟨_, _, rfl, .inl (sqL_mono u s), flat_dp hx h.1, f1, by rw [f2]; exact bool_out u h.2.2⟩
  · cases hy with
    | tup s a =>
      obtain ⟨f1, f2⟩ := inV_dp hx h.1 a h.2.1
      exact ⟨_, _, rfl, .inr (sqT_mono u s), flat_dp hx h.1, f1, by rw [f2]; exact bool_out u h.2.2⟩
  · exact h.elim
theorem pde_in {a b : Expr} {pos : Pos} {da db : DE} (ha : PDE X R a da) (hb : PDE X R b db) (hm : behindInMarks .In b = false := by rfl) : PDE X R (.Compare a [.In] [b] pos) (dOp (bIn false) da db) := pd_cmp op_in_seq bIn_ok bIn_mono ha hb hm
theorem pdt_in {a b : Expr} {pos : Pos} {da db : DE} (ha : PDE X R a da) (hb : PDE X R b db) (hm : behindInMarks .In b = false := by rfl) : PDT X R (.Compare a [.In] [b] pos) (dTest (dOp (bIn false) da db)) := pdt_cmp op_in_seq bIn_ok bIn_mono ha hb hm
theorem pde_notin {a b : Expr} {pos : Pos} {da db : DE} (ha : PDE X R a da) (hb : PDE X R b db) (hm : behindInMarks .NotIn b = false := by rfl) : PDE X R (.Compare a [.NotIn] [b] pos) (dOp (bIn true) da db) := pd_cmp op_notIn_seq bIn_ok bIn_mono ha hb hm
theorem pdt_notin {a b : Expr} {pos : Pos} {da db : DE} (ha : PDE X R a da) (hb : PDE X R b db) (hm : behindInMarks .NotIn b = false := by rfl) : PDT X R (.Compare a [.NotIn] [b] pos) (dTest (dOp (bIn true) da db)) := pdt_cmp op_notIn_seq bIn_ok bIn_mono ha hb hm


def bIx : PyData → PyData → (PyData → Prop) → Prop := fun d e Q => match d, e with
  | .list ds, .int i => ∃ z, atI ds i = some z ∧ Q z
  | .tuple ds, .int i => ∃ z, atI ds i = some z ∧ Q z
  | .str x, .int i => x.length ≤ 1000000 ∧ ∃ c, atI x.cps.toList i = some c ∧ Q (.str ⟨#[c]⟩)
  | _, _ => False
theorem bIx_mono : MonoB bIx := fun d e W W' m h => by
  unfold bIx at h ⊢
  split at h
  · obtain ⟨z, e, q⟩ := h; exact ⟨z, e, m _ q⟩
  · obtain ⟨z, e, q⟩ := h; exact ⟨z, e, m _ q⟩
  · obtain ⟨l, z, e, q⟩ := h; exact ⟨l, z, e, m _ q⟩
  · exact h
theorem at_dp {xs : List V} {ds : List PyData} {i : Int} {z : PyData} (h : DpAll K D xs ds) (e : atI ds i = some z) : ∃ v, atI xs i = some v ∧ Dp K D v z := by
  unfold atI at e ⊢
  rw [dpAll_len h]
  cases q : ixN ds.length i with
  | none => rw [q] at e; cases e -- k09
  | some j =>
    rw [q] at e
    exact dpAll_get h e
theorem bIx_ok : OpD K (rIx K) bIx := fun D H x y d e Q u hx hy h => by
  unfold bIx at h
  split at h
  · cases hy
    cases hx with
    | lst s a =>
      obtain ⟨z, e, q⟩ := h
      obtain ⟨v, e1, q1⟩ := at_dp a e
      exact .inl ⟨_, _, _, v, rfl, rfl, sqL_mono u s, e1, q v H D (Grow.refl u) q1⟩
  · cases hy
    cases hx with
    | tup s a =>
      obtain ⟨z, e, q⟩ := h
      obtain ⟨v, e1, q1⟩ := at_dp a e
      exact .inr (.inl ⟨_, _, _, v, rfl, rfl, sqT_mono u s, e1, q v H D (Grow.refl u) q1⟩)
  · cases hy
    cases hx
    obtain ⟨l, c, e, q⟩ := h
    exact .inr (.inr ⟨_, _, c, rfl, rfl, szM l, e, str_out u q⟩)
  · exact h.elim
theorem pde_ix {a b : Expr} {pos : Pos} {da db : DE} (ha : PDE X R a da) (hb : PDE X R b db) (hs : PlainIx b := by intro _ _; rfl) : PDE X R (.Subscript a b pos) (dOp bIx da db) :=
  ⟨pe_imp (pe_ix ix_seq ha.pe hb.pe hs) fun _ _ _ q => op_imp bIx_ok bIx_mono ha.mono hb.mono q, dOp_mono bIx_mono ha.mono hb.mono⟩
def dIxO (i : Nat) (b : DE) : DE := fun Γ Q => match Γ[i]? with
  | some (some (Ent.own _)) => b Γ fun n Γ1 => match n, Γ1[i]? with
    | .int j, some (some (Ent.own ds)) => ∃ z, atI ds j = some z ∧ Q z Γ1
    | _, _ => False
  | some (some (Ent.arg _)) => b Γ fun n Γ1 => match n, Γ1[i]? with
    | .int j, some (some (Ent.arg ds)) => ∃ z, atI ds j = some z ∧ Q z Γ1
    | _, _ => False
  | _ => False
theorem pde_ixO {y : Str} {py pos : Pos} {b : Expr} {db : DE} (i : Nat) (hb : PDE X R b db) (hN : X.N[i]? = some y := by rfl) (hv : Vis X.env.scope y := by first | exact Or.inl rfl | exact Or.inr (Or.inl rfl) | exact Or.inr (Or.inr rfl)) (hd : (y == ("__debug__" : Str)) = false := by decide)
    (hcd : (y == ("__classdict__" : Str)) = false := by decide) (hs : PlainIx b := by intro _ _; rfl) : PDE X R (.Subscript (.Name y py) b pos) (dIxO i db) := by
  refine ⟨pe_imp (pe_ix ix_list (pe_var hN hv hd hcd) hb.pe hs) fun σ H Q ⟨Γ, D, r, q⟩ => ?_, fun Γ W W' m h => ?_⟩
  · unfold dIxO at q
    split at q
    · rename_i fs0 e0
      obtain ⟨c, xs0, o1, o2, o3, o4, o5⟩ := r.own i fs0 e0
      refine ⟨.ref c, o1, goE r hb.mono q fun n Γ1 w H1 D1 h1 r1 s1 q1 => ?_⟩
      split at h1
      · rename_i j fs e1
        cases q1
        obtain ⟨c', xs, p1, p2, p3, p4, p5⟩ := r1.own i fs e1
        rw [o1] at p1
        obtain rfl : c = c' := by cases p1; rfl
        obtain ⟨z, ez, qz⟩ := h1
        obtain ⟨v, e2, q2⟩ := at_dp p4 ez
        exact ⟨c, xs, j, v, rfl, rfl, SqL.of p2, e2, qz v H1 D1 r1 s1 q2⟩
      · exact h1.elim
    · rename_i fs0 e0
      obtain ⟨c, xs0, o0, o1, o2, o3, o4⟩ := r.arg i fs0 e0
      refine ⟨.ref c, o1, goE r hb.mono q fun n Γ1 w H1 D1 h1 r1 s1 q1 => ?_⟩
      split at h1
      · rename_i j fs e1
        cases q1
        obtain ⟨c', xs, p0, p1, p2, p3, p4⟩ := r1.arg i fs e1
        rw [o1] at p1
        obtain rfl : c = c' := by cases p1; rfl
        obtain ⟨z, ez, qz⟩ := h1
        obtain ⟨v, e2, q2⟩ := at_dp p4 ez
        exact ⟨c, xs, j, v, rfl, rfl, SqL.of p2, e2, qz v H1 D1 r1 s1 q2⟩
      · exact h1.elim
    · exact q.elim
  · unfold dIxO at h ⊢
    split at h
    · refine hb.mono Γ _ _ (fun n Γ1 q => ?_) h
      split at q
      · obtain ⟨z, e, q⟩ := q; exact ⟨z, e, m _ _ q⟩
      · exact q
    · refine hb.mono Γ _ _ (fun n Γ1 q => ?_) h
      split at q
      · obtain ⟨z, e, q⟩ := q; exact ⟨z, e, m _ _ q⟩
      · exact q
    · exact h
def dLenO (i : Nat) : DE := fun Γ Q => match Γ[i]? with
  | some (some (Ent.own ds)) => Q (.int ds.length) Γ
  | some (some (Ent.arg ds)) => Q (.int ds.length) Γ
  | _ => False
theorem pde_lenO {y : Str} {py p pos : Pos} (i : Nat) (hm : X.mg "len" = none) (hN : X.N[i]? = some y := by rfl) (hv : Vis X.env.scope y := by first | exact Or.inl rfl | exact Or.inr (Or.inl rfl) | exact Or.inr (Or.inr rfl)) (hd : (y == ("__debug__" : Str)) = false := by decide)
    (hcd : (y == ("__classdict__" : Str)) = false := by decide) (hg : Gl X "len" := by rfl) (he : starEach [.Name y py] X.env = (false, eval (.Name y py) X.env) :: starEach [] X.env := by rfl) (hpl : (backTo pos (starEach [] X.env)).any (·.1) = false := by rfl) :
    PDE X R (.Call (.Name "len" p) [.Name y py] [] pos) (dLenO i) := by
  refine ⟨pe_imp (pe_callB call_len_seq hg hm PySem.boot_len (pa_cons (pe_var hN hv hd hcd) pa_nil he) (by decide) (by decide) he hpl) fun σ H Q ⟨Γ, D, r, q⟩ => ?_, fun Γ W W' m h => ?_⟩
  · unfold dLenO at q
    split at q
    · rename_i fs e0
      obtain ⟨b, xs, o1, o2, o3, o4, o5⟩ := r.own i fs e0
      exact ⟨.ref b, o1, b, xs, rfl, .inl (SqL.of o2), by rw [dpAll_len o4]; exact q _ H D r Step.refl (.int _)⟩
    · rename_i fs e0
      obtain ⟨b, xs, o0, o1, o2, o3, o4⟩ := r.arg i fs e0
      exact ⟨.ref b, o1, b, xs, rfl, .inl (SqL.of o2), by rw [dpAll_len o4]; exact q _ H D r Step.refl (.int _)⟩
    · exact q.elim
  · unfold dLenO at h ⊢
    split at h
    · exact m _ _ h
    · exact m _ _ h
    · exact h
end
end DL

set_option Elab.async false
set_option linter.all false
set_option maxRecDepth 100000
set_option maxHeartbeats 1000000
namespace DL
open PySem PySem.Spec PyProof.Rows L2
section
variable {X : Cx} {R : Root} {K : PySem.W.Frag} {σ : L2.St} {H D : Hp} {Γ : DEnv}


def cutD (ds : List PyData) (lo hi : Option Int) : List PyData := (ds.drop (HT.sIx ds.length 0 lo)).take (HT.sIx ds.length ds.length hi - HT.sIx ds.length 0 lo)
theorem cut_dp {xs : List V} {ds : List PyData} {lo hi : Option Int} (h : DpAll K D xs ds) : DpAll K D (cutV xs lo hi) (cutD ds lo hi) := by
  unfold cutV cutD
  rw [dpAll_len h]
  exact dpAll_take _ (dpAll_drop _ h)
def SlD : PyData → Option Int → Option Int → (PyData → Prop) → Prop := fun d lo hi Q => match d with
  | .list ds => Q (.list (cutD ds lo hi))
  | .tuple ds => Q (.tuple (cutD ds lo hi))
  | .str x => x.length ≤ 1000000 ∧ Q (.str (cutS x lo hi))
  | _ => False
theorem slD_mono {d : PyData} {lo hi : Option Int} {W W' : PyData → Prop} (m : ∀ z, W z → W' z) (h : SlD d lo hi W) : SlD d lo hi W' := by
  unfold SlD at h ⊢
  split at h
  · exact m _ h
  · exact m _ h
  · exact ⟨h.1, m _ h.2⟩
  · exact h
def rSlAny (K : PySem.W.Frag) : V → Option Int → Option Int → Hp → VK → Prop := fun x lo hi H Q => rSlL K x lo hi H Q ∨ rSlA K x lo hi H Q ∨ rSlS x lo hi H Q
theorem sl_any : SlR X (rSlAny X.K) := sl_list.or (sl_tupA.or sl_str)
theorem cutV_whole {ds : List PyData} {lo hi : Option Int} (h : HT.sIx ds.length 0 lo = 0 ∧ HT.sIx ds.length ds.length hi = ds.length) : cutD ds lo hi = ds := by
  unfold cutD
  rw [h.1, h.2, List.drop_zero, Nat.sub_zero, List.take_length]
theorem slAny_ok {x : V} {d : PyData} {lo hi : Option Int} {Q : VK} (u : Sub D H) (hx : Dp K D x d) (h : SlD d lo hi fun z => ∀ v H' D', Grow D H D' H' → Dp K D' v z → Q v H') : rSlAny K x lo hi H Q := by
  unfold SlD at h
  split at h
  · cases hx with
    | lst s a =>
      rename_i ds a' xs
      refine .inl ⟨_, _, rfl, sqL_mono u s, fun p hp => ?_⟩
      have g := Grow.upd (o := .lst (cutV xs lo hi)) u hp
      exact h _ _ _ g (.lst (SqX.of upd_same) (cut_dp (dpAll_mono g.d a)))
  · cases hx with
    | tup s a =>
      rename_i ds a' xs
      refine .inr (.inl ⟨_, _, rfl, sqT_mono u s, fun w => ?_, fun w p hp => ?_⟩)
      · rw [dpAll_len a] at w
        have q := h (.ref a') H D (Grow.refl u)
        rw [cutV_whole w] at q
        exact q (.tup s a)
      · have g := Grow.upd (o := .tup (cutV xs lo hi)) u hp
        exact h _ _ _ g (.tup (SqT.of upd_same) (cut_dp (dpAll_mono g.d a)))
  · cases hx
    exact .inr (.inr ⟨_, rfl, szM h.1, str_out u h.2⟩)
  · exact h.elim
abbrev DO := DEnv → (Option Int → DEnv → Prop) → Prop
def liftO (K : PySem.W.Frag) (R : Root) (o : DO) : TO := fun σ H Q => ∃ Γ D, Rep K R σ H Γ D ∧ o Γ fun i Γ' => ∀ H' D', Rep K R σ H' Γ' D' → Step σ Γ D H Γ' D' H' → Q i H'
structure PDO (X : Cx) (R : Root) (e : Option Expr) (o : DO) : Prop where
  po : PO X e (liftO X.K R o)
  mono : MonoK o
def dNo : DO := fun Γ Q => Q none Γ
def dYesO (a : DE) : DO := fun Γ Q => a Γ fun d Γ1 => match d with | .int i => Q (some i) Γ1 | _ => False
theorem po_imp {e : Option Expr} {t u : TO} (h : PO X e t) (i : ∀ σ H Q, u σ H Q → t σ H Q) : PO X e u := ⟨fun pins s σ H Q I q => h.run pins s σ H Q I (i σ H Q q)⟩
theorem pdo_none : PDO X R none dNo := ⟨po_imp po_none fun σ H Q ⟨Γ, D, r, q⟩ => q H D r Step.refl, fun Γ W W' m h => m _ _ h⟩
theorem pdo_some {e : Expr} {a : DE} (h : PDE X R e a) : PDO X R (some e) (dYesO a) := by
  refine ⟨po_imp (po_some h.pe) fun σ H Q ⟨Γ, D, r, q⟩ => ?_, fun Γ W W' m q => h.mono Γ _ _ (fun d Γ1 z => by cases d <;> first | exact m _ _ z | exact z) q⟩
  refine goE r h.mono q fun d Γ1 v H1 D1 h1 r1 s1 q1 => ?_
  cases q1 with
  | int i => exact ⟨i, rfl, h1 H1 D1 r1 s1⟩
  | non => exact h1.elim
  | bl _ => exact h1.elim
  | str _ => exact h1.elim
  | lst _ _ => exact h1.elim
  | tup _ _ => exact h1.elim
def dSlice (a : DE) (l h : DO) : DE := fun Γ Q => a Γ fun d Γ1 => l Γ1 fun i Γ2 => h Γ2 fun j Γ3 => SlD d i j fun z => Q z Γ3
theorem pde_slice {e : Expr} {lo hi : Option Expr} {p2 pos : Pos} {a : DE} {l h : DO} (he : PDE X R e a) (hl : PDO X R lo l) (hh : PDO X R hi h) : PDE X R (.Subscript e (.Slice lo hi none p2) pos) (dSlice a l h) := by
  refine ⟨pe_imp (pe_slice sl_any he.pe hl.po hh.po) fun σ H Q ⟨Γ, D, r, q⟩ => ?_, fun Γ W W' m q => he.mono Γ _ _ (fun d Γ1 q1 => hl.mono Γ1 _ _ (fun i Γ2 q2 => hh.mono Γ2 _ _ (fun j Γ3 q3 => slD_mono (fun z w => m z Γ3 w) q3) q2) q1) q⟩
  refine goE r he.mono q fun d Γ1 v H1 D1 h1 r1 s1 q1 => ?_
  refine ⟨Γ1, D1, r1, hl.mono Γ1 _ _ (fun i Γ2 h2 H2 D2 r2 s2 => ⟨Γ2, D2, r2, hh.mono Γ2 _ _ (fun j Γ3 h3 H3 D3 r3 s3 => ?_) h2⟩) h1⟩
  exact slAny_ok r3.sub (dp_mono (s2.d.trans s3.d) q1) (slD_mono (fun z w v' H' D' g dp => w v' H' D' (r3.grow g) ((s1.trans (s2.trans s3)).trans g.step) dp) h3)


inductive Ty5 where | int | bool | str | tuple | list
def Ty5.n : Ty5 → String | .int => "int" | .bool => "bool" | .str => "str" | .tuple => "tuple" | .list => "list"
def isTy : Ty5 → PyData → Bool
  | .int, .int _ => true | .int, .bool _ => true
  | .bool, .bool _ => true
  | .str, .str _ => true
  | .tuple, .tuple _ => true
  | .list, .list _ => true
  | _, _ => false
def tyN : PyData → String | .none => "NoneType" | .bool _ => "bool" | .int _ => "int" | .str _ => "str" | .list _ => "list" | .tuple _ => "tuple" | .dict _ => "dict"
theorem kit_non (T : Ty5) : kitB "NoneType" T.n = some false := by cases T <;> decide +kernel
theorem kit_bool (T : Ty5) : kitB "bool" T.n = some (isTy T (.bool true)) := by cases T <;> decide +kernel
theorem kit_int (T : Ty5) : kitB "int" T.n = some (isTy T (.int 0)) := by cases T <;> decide +kernel
theorem kit_str (T : Ty5) : kitB "str" T.n = some (isTy T (.str Str.empty)) := by cases T <;> decide +kernel
theorem kit_list (T : Ty5) : kitB "list" T.n = some (isTy T (.list [])) := by cases T <;> decide +kernel
theorem kit_tuple (T : Ty5) : kitB "tuple" T.n = some (isTy T (.tuple [])) := by cases T <;> decide +kernel
theorem tyx_l {a : Addr} {xs : List V} (h : SqL K H a xs) : TyX K H (.ref a) (.type "list") := by
  rcases h with (h | ⟨o, h⟩) | ⟨o, its, n, h, c, _⟩
  · exact .base (.lst h)
  · exact .base (.frz h)
  · exact .kList h c
theorem tyx_t {a : Addr} {xs : List V} (h : SqT K H a xs) : TyX K H (.ref a) (.type "tuple") := by
  rcases h with (h | ⟨o, h⟩) | ⟨o, its, n, h, c, _⟩
  · exact .base (.tup h)
  · exact .fTuple h
  · exact .kTuple h c
theorem isi_dp {x : V} {d : PyData} (h : Dp K H x d) (T : Ty5) : ∃ t, TyX K H x t ∧ PySem.W.kitOne K t (.type T.n) = some (isTy T d) := by
  cases h with
  | non => exact ⟨_, .base .non, by rw [kit_ty (kit_non T)]; cases T <;> rfl⟩
  | bl b => exact ⟨_, .base (.bl b), by rw [kit_ty (kit_bool T)]; cases T <;> rfl⟩
  | int i => exact ⟨_, .base (.int i), by rw [kit_ty (kit_int T)]; cases T <;> rfl⟩
  | str x => exact ⟨_, .base (.str x), by rw [kit_ty (kit_str T)]; cases T <;> rfl⟩
  | lst s a => exact ⟨_, tyx_l s.l, by rw [kit_ty (kit_list T)]; cases T <;> rfl⟩
  | tup s a => exact ⟨_, tyx_t s, by rw [kit_ty (kit_tuple T)]; cases T <;> rfl⟩
def dIsi (T : Ty5) (a : DE) : DE := fun Γ Q => a Γ fun d Γ1 => Q (.bool (isTy T d)) Γ1
theorem dIsi_mono {T : Ty5} {a : DE} (ma : MonoK a) : MonoK (dIsi T a) := fun Γ W W' m h => ma Γ _ _ (fun d Γ1 q => m _ _ q) h
theorem boot_ty (T : Ty5) : bootBuiltins (Str.ofString T.n) = some (.type T.n) := by cases T <;> decide +kernel
theorem pde_isi {e : Expr} {p p2 pos : Pos} {y : Str} {a : DE} (T : Ty5) (hy : y = Str.ofString T.n) (he : PDE X R e a) (hm : X.mg "isinstance" = none) (hmT : X.mg y = none) (hg : Gl X "isinstance" := by rfl) (hgT : Gl X y := by rfl)
    (hs1 : starEach [e, .Name y p2] X.env = (false, eval e X.env) :: starEach [.Name y p2] X.env := by rfl) (hs2 : starEach [.Name y p2] X.env = (false, eval (.Name y p2) X.env) :: starEach [] X.env := by rfl) (hpl : (backTo pos (starEach [.Name y p2] X.env)).any (·.1) = false := by rfl)
    (hn : y ≠ "__name__" := by decide) (hd : (y == ("__debug__" : Str)) = false := by decide) : PDE X R (.Call (.Name "isinstance" p) [e, .Name y p2] [] pos) (dIsi T a) := by
  refine ⟨pe_imp (pe_callB call_isi hg hm (by decide +kernel) (pa_cons he.pe (pa_cons (pe_bltn (v := .ty T.n) hgT hmT (by rw [hy]; exact boot_ty T) rfl hn hd) pa_nil hs2) hs1) (by decide) (by decide) hs1 hpl) fun σ H Q ⟨Γ, D, r, q⟩ => ?_, dIsi_mono he.mono⟩
  refine goE r he.mono q fun d Γ1 v H1 D1 h1 r1 s1 q1 => ?_
  obtain ⟨t, t1, t2⟩ := isi_dp (dp_mono (fun a o h => r1.sub a o h) q1) T
  exact ⟨v, .ty T.n, t, .type T.n, _, rfl, .ty T.n, t1, t2, h1 _ H1 D1 r1 s1 (.bl _)⟩
def dIsi2 (T U : Ty5) (a : DE) : DE := fun Γ Q => a Γ fun d Γ1 => Q (.bool (isTy T d || isTy U d)) Γ1
theorem pde_isi2 {e : Expr} {p p2 p3 p4 pos : Pos} {k : Nat} {y z : Str} {a : DE} (T U : Ty5) (hy : y = Str.ofString T.n) (hz : z = Str.ofString U.n) (he : PDE X R e a) (hm : X.mg "isinstance" = none) (hmT : X.mg y = none) (hmU : X.mg z = none) (hg : Gl X "isinstance" := by rfl) (hgT : Gl X y := by rfl) (hgU : Gl X z := by rfl)
    (hs1 : starEach [e, .Tuple [.Name y p2, .Name z p3] k p4] X.env = (false, eval e X.env) :: starEach [.Tuple [.Name y p2, .Name z p3] k p4] X.env := by rfl) (hpl : (backTo pos (starEach [.Tuple [.Name y p2, .Name z p3] k p4] X.env)).any (·.1) = false := by rfl)
    (hs2 : starEach [.Tuple [.Name y p2, .Name z p3] k p4] X.env = (false, eval (.Tuple [.Name y p2, .Name z p3] k p4) X.env) :: starEach [] X.env := by rfl) (hs3 : starEach [.Name y p2, .Name z p3] X.env = (false, eval (.Name y p2) X.env) :: starEach [.Name z p3] X.env := by rfl) (hs4 : starEach [.Name z p3] X.env = (false, eval (.Name z p3) X.env) :: starEach [] X.env := by rfl)
    (hn : y ≠ "__name__" := by decide) (hd : (y == ("__debug__" : Str)) = false := by decide) (hn2 : z ≠ "__name__" := by decide) (hd2 : (z == ("__debug__" : Str)) = false := by decide) : PDE X R (.Call (.Name "isinstance" p) [e, .Tuple [.Name y p2, .Name z p3] k p4] [] pos) (dIsi2 T U a) := by
  refine ⟨pe_imp (pe_callB call_isiT hg hm (by decide +kernel) (pa_cons he.pe (pa_cons (pe_tup (pa_cons (pe_bltn (v := .ty T.n) hgT hmT (by rw [hy]; exact boot_ty T) rfl hn hd) (pa_cons (pe_bltn (v := .ty U.n) hgU hmU (by rw [hz]; exact boot_ty U) rfl hn2 hd2) pa_nil hs4) hs3)) pa_nil hs2) hs1) (by decide) (by decide) hs1 hpl) fun σ H Q ⟨Γ, D, r, q⟩ => ?_, fun Γ W W' m h => he.mono Γ _ _ (fun d Γ1 q => m _ _ q) h⟩
  refine goE r he.mono q fun d Γ1 v H1 D1 h1 r1 s1 q1 => ?_
  refine ⟨by show 2 ≤ sizeLine; decide, fun tp htp => ?_⟩
  have g := Grow.tmp (o := .tup [.ty T.n, .ty U.n]) r1.sub htp
  have dp : Dp X.K (L2.upd H1 tp (.tup [.ty T.n, .ty U.n])) v d := dp_mono (fun a o h => g.sub a o h) q1
  obtain ⟨t, t1, t2⟩ := isi_dp dp T
  obtain ⟨t', t1', t2'⟩ := isi_dp dp U
  have ett : ∀ {x : V} {d : PyData} {H : Hp}, Dp X.K H x d → ∃ w : Value, ∀ T : Ty5, TyX X.K H x w ∧ PySem.W.kitOne X.K w (.type T.n) = some (isTy T d) := fun h => by
    cases h with
    | non => exact ⟨.type "NoneType", fun T => ⟨.base .non, by rw [kit_ty (kit_non T)]; cases T <;> rfl⟩⟩
    | bl b => exact ⟨.type "bool", fun T => ⟨.base (.bl b), by rw [kit_ty (kit_bool T)]; cases T <;> rfl⟩⟩
    | int i => exact ⟨.type "int", fun T => ⟨.base (.int i), by rw [kit_ty (kit_int T)]; cases T <;> rfl⟩⟩
    | str x => exact ⟨.type "str", fun T => ⟨.base (.str x), by rw [kit_ty (kit_str T)]; cases T <;> rfl⟩⟩
    | lst s a => exact ⟨.type "list", fun T => ⟨tyx_l s.l, by rw [kit_ty (kit_list T)]; cases T <;> rfl⟩⟩
    | tup s a => exact ⟨.type "tuple", fun T => ⟨tyx_t s, by rw [kit_ty (kit_tuple T)]; cases T <;> rfl⟩⟩
  obtain ⟨w, hw⟩ := ett dp
  refine ⟨v, tp, [.ty T.n, .ty U.n], w, [.type T.n, .type U.n], isTy T d || isTy U d, rfl, upd_same, .cons (.ty _) (.cons (.ty _) .nil), (hw T).1, ?_, h1 _ _ D1 (r1.grow g) (s1.trans g.step) (.bl _)⟩
  refine kitAny_cons (hw T).2 (fun e => ?_) (fun e => by rw [e]; rfl)
  rw [e, Bool.false_or]
  refine kitAny_cons (hw U).2 (fun e => ?_) (fun e => e)
  rw [e]
  rfl


def cLen : PSpec := fun ds Q => match ds with | [.list es] => Q (.int es.length) | [.tuple es] => Q (.int es.length) | [.str x] => x.length ≤ 1000000 ∧ Q (.int x.length) | _ => False
theorem cLen_mono : MonoC cLen := fun ds W W' m h => by
  unfold cLen at h ⊢
  split at h
  · exact m _ h
  · exact m _ h
  · exact ⟨h.1, m _ h.2⟩
  · exact h
theorem cLen_ok : CallD K (fun xs H Q => (∃ p ys, xs = [.ref p] ∧ (SqL K H p ys ∨ SqT K H p ys) ∧ Q (.int ys.length) H) ∨ ∃ z, xs = [.str z] ∧ z.length ≤ sizeLine ∧ Q (.int z.length) H) cLen := fun D H xs ds Q u hd h => by
  unfold cLen at h
  split at h
  · cases hd with
    | cons a b =>
      cases b
      cases a with
      | lst s al => exact .inl ⟨_, _, rfl, .inl (sqL_mono u s), by rw [dpAll_len al]; exact int_out u h⟩
  · cases hd with
    | cons a b =>
      cases b
      cases a with
      | tup s al => exact .inl ⟨_, _, rfl, .inr (sqT_mono u s), by rw [dpAll_len al]; exact int_out u h⟩
  · cases hd with
    | cons a b =>
      cases b
      cases a
      exact .inr ⟨_, rfl, szM h.1, int_out u h.2⟩
  · exact h.elim
theorem pde_len {e : Expr} {p pos : Pos} {a : DE} (ha : PDE X R e a) (hm : X.mg "len" = none) (hg : Gl X "len" := by rfl) (he : starEach [e] X.env = (false, eval e X.env) :: starEach [] X.env := by rfl) (hpl : (backTo pos (starEach [] X.env)).any (·.1) = false := by rfl) :
    PDE X R (.Call (.Name "len" p) [e] [] pos) (dCall cLen (dCons a dNil)) := pde_callB (call_len_seq.or call_len_str) cLen_ok cLen_mono hg hm PySem.boot_len (pda_cons ha pda_nil he) (by decide) (by decide) he hpl
def cAll (f : List Bool → Bool) : PSpec := fun ds Q => ∃ bs : List Bool, ds = [.list (bs.map .bool)] ∧ Q (.bool (f bs))
theorem cAll_mono {f} : MonoC (cAll f) := fun ds W W' m ⟨bs, e, h⟩ => ⟨bs, e, m _ h⟩
theorem cAll_ok : CallD K (rAll K) (cAll fun bs => bs.all id) := fun D H xs ds Q u hd ⟨bs, e, h⟩ => by
  subst e
  cases hd with
  | cons a b =>
    cases b
    cases a with
    | lst s al =>
      have e := dpAll_blsV al
      subst e
      exact ⟨_, bs, rfl, sqL_mono u s, bool_out u h⟩
theorem cAny_ok : CallD K (rAny K) (cAll fun bs => bs.any id) := fun D H xs ds Q u hd ⟨bs, e, h⟩ => by
  subst e
  cases hd with
  | cons a b =>
    cases b
    cases a with
    | lst s al =>
      have e := dpAll_blsV al
      subst e
      exact ⟨_, bs, rfl, sqL_mono u s, bool_out u h⟩
theorem pde_all {e : Expr} {p pos : Pos} {a : DE} (hc : X.calm = true) (ha : PDE X R e a) (hm : X.mg "all" = none) (hg : Gl X "all" := by rfl) (he : starEach [e] X.env = (false, eval e X.env) :: starEach [] X.env := by rfl) (hpl : (backTo pos (starEach [] X.env)).any (·.1) = false := by rfl) :
    PDE X R (.Call (.Name "all" p) [e] [] pos) (dCall (cAll fun bs => bs.all id) (dCons a dNil)) := pde_callB (cr_all hc) cAll_ok cAll_mono hg hm (by decide +kernel) (pda_cons ha pda_nil he) (by decide) (by decide) he hpl
theorem pde_any {e : Expr} {p pos : Pos} {a : DE} (hc : X.calm = true) (ha : PDE X R e a) (hm : X.mg "any" = none) (hg : Gl X "any" := by rfl) (he : starEach [e] X.env = (false, eval e X.env) :: starEach [] X.env := by rfl) (hpl : (backTo pos (starEach [] X.env)).any (·.1) = false := by rfl) :
    PDE X R (.Call (.Name "any" p) [e] [] pos) (dCall (cAll fun bs => bs.any id) (dCons a dNil)) := pde_callB (cr_any hc) cAny_ok cAll_mono hg hm (by decide +kernel) (pda_cons ha pda_nil he) (by decide) (by decide) he hpl
def cStr : PSpec := fun ds Q => match ds with | [.int i] => i.natAbs.log2 < 1920 ∧ Q (.str (toString i)) | _ => False
theorem cStr_mono : MonoC cStr := fun ds W W' m h => by
  unfold cStr at h ⊢
  split at h
  · exact ⟨h.1, m _ h.2⟩
  · exact h
theorem cStr_ok : CallD K (fun xs H Q => ∃ i, xs = [.int i] ∧ i.natAbs.log2 < 1920 ∧ Q (.str (toString i)) H) cStr := fun D H xs ds Q u hd h => by
  unfold cStr at h
  split at h
  · cases hd with
    | cons a b =>
      cases b
      cases a
      exact ⟨_, rfl, h.1, str_out u h.2⟩
  · exact h.elim
theorem pde_str {e : Expr} {p pos : Pos} {a : DE} (ha : PDE X R e a) (hm : X.mg "str" = none) (hg : Gl X "str" := by rfl) (he : starEach [e] X.env = (false, eval e X.env) :: starEach [] X.env := by rfl) (hpl : (backTo pos (starEach [] X.env)).any (·.1) = false := by rfl) :
    PDE X R (.Call (.Name "str" p) [e] [] pos) (dCall cStr (dCons a dNil)) := pde_callTy call_str_int cStr_ok cStr_mono hg hm (by decide +kernel) (pda_cons ha pda_nil he) (by decide) (by decide) he hpl
def cInt : PSpec := fun ds Q => match ds with | [.int i] => Q (.int i) | [.bool b] => Q (.int (if b then 1 else 0)) | _ => False
theorem cInt_mono : MonoC cInt := fun ds W W' m h => by
  unfold cInt at h ⊢
  split at h
  · exact m _ h
  · exact m _ h
  · exact h
theorem cInt_ok : CallD K (fun xs H Q => (∃ i, xs = [.int i] ∧ Q (.int i) H) ∨ ∃ k, xs = [.bl k] ∧ Q (.int (if k then 1 else 0)) H) cInt := fun D H xs ds Q u hd h => by
  unfold cInt at h
  split at h
  · cases hd with
    | cons a b =>
      cases b
      cases a
      exact .inl ⟨_, rfl, int_out u h⟩
  · cases hd with
    | cons a b =>
      cases b
      cases a
      exact .inr ⟨_, rfl, int_out u h⟩
  · exact h.elim
theorem pde_int1 {e : Expr} {p pos : Pos} {a : DE} (ha : PDE X R e a) (hm : X.mg "int" = none) (hg : Gl X "int" := by rfl) (he : starEach [e] X.env = (false, eval e X.env) :: starEach [] X.env := by rfl) (hpl : (backTo pos (starEach [] X.env)).any (·.1) = false := by rfl) :
    PDE X R (.Call (.Name "int" p) [e] [] pos) (dCall cInt (dCons a dNil)) := pde_callTy call_int1 cInt_ok cInt_mono hg hm (by decide +kernel) (pda_cons ha pda_nil he) (by decide) (by decide) he hpl
def cTuple : PSpec := fun ds Q => match ds with | [.list es] => Q (.tuple es) | [.tuple es] => Q (.tuple es) | _ => False
theorem cTuple_mono : MonoC cTuple := fun ds W W' m h => by
  unfold cTuple at h ⊢
  split at h
  · exact m _ h
  · exact m _ h
  · exact h
theorem cTuple_ok : CallD K (fun xs H Q => ∃ p ys, xs = [.ref p] ∧ ((SqL K H p ys ∧ ∀ l, H l = none → Q (.ref l) (upd H l (.tup ys))) ∨ (SqT K H p ys ∧ Q (.ref p) H))) cTuple := fun D H xs ds Q u hd h => by
  unfold cTuple at h
  split at h
  · cases hd with
    | cons a b =>
      cases b
      cases a with
      | lst s al =>
        rename_i es a' xs'
        refine ⟨_, _, rfl, .inl ⟨sqL_mono u s, fun l hl => ?_⟩⟩
        have g := Grow.upd (o := .tup xs') u hl
        exact h _ _ _ g (.tup (SqT.of upd_same) (dpAll_mono g.d al))
  · cases hd with
    | cons a b =>
      cases b
      cases a with
      | tup s al => exact ⟨_, _, rfl, .inr ⟨sqT_mono u s, h _ H D (Grow.refl u) (.tup s al)⟩⟩
  · exact h.elim
theorem pde_tuple {e : Expr} {p pos : Pos} {a : DE} (ha : PDE X R e a) (hm : X.mg "tuple" = none) (hg : Gl X "tuple" := by rfl) (he : starEach [e] X.env = (false, eval e X.env) :: starEach [] X.env := by rfl) (hpl : (backTo pos (starEach [] X.env)).any (·.1) = false := by rfl) :
    PDE X R (.Call (.Name "tuple" p) [e] [] pos) (dCall cTuple (dCons a dNil)) := pde_callTy call_tuple_of cTuple_ok cTuple_mono hg hm (by decide +kernel) (pda_cons ha pda_nil he) (by decide) (by decide) he hpl
def dListOf (a : DE) : DA := fun Γ Q => a Γ fun d Γ1 => match d with | .list es => Q es Γ1 | .tuple es => Q es Γ1 | _ => False
theorem pdl_list {e : Expr} {p pos : Pos} {a : DE} (ha : PDE X R e a) (hm : X.mg "list" = none) (hg : Gl X "list" := by rfl) (he : starEach [e] X.env = (false, eval e X.env) :: starEach [] X.env := by rfl) (hpl : (backTo pos (starEach [] X.env)).any (·.1) = false := by rfl) :
    PDL X R (.Call (.Name "list" p) [e] [] pos) (dListOf a) := by
  refine ⟨pe_imp (L2.pe_callTy call_list_of hg hm (by decide +kernel) (pa_cons ha.pe pa_nil he) (by decide) (by decide) he hpl) fun σ H Q ⟨Γ, D, r, q⟩ => ?_, fun Γ W W' m h => ha.mono Γ _ _ (fun d Γ1 q => by cases d <;> first | exact m _ _ q | exact q) h⟩
  refine goE r ha.mono q fun d Γ1 v H1 D1 h1 r1 s1 q1 => ?_
  cases q1 with
  | lst s al =>
    rename_i a' xs' ds'
    refine ⟨_, _, rfl, .inl (sqL_mono r1.sub s), fun l hl => ?_⟩
    have g := Grow.tmp (o := .lst xs') r1.sub hl
    exact h1 l _ _ D1 (r1.grow g) (s1.trans g.step) (step_free s1 hl) upd_same (d_none r1.sub hl) (mine_no r1 hl) al
  | tup s al =>
    rename_i a' xs' ds'
    refine ⟨_, _, rfl, .inr (sqT_mono r1.sub s), fun l hl => ?_⟩
    have g := Grow.tmp (o := .lst xs') r1.sub hl
    exact h1 l _ _ D1 (r1.grow g) (s1.trans g.step) (step_free s1 hl) upd_same (d_none r1.sub hl) (mine_no r1 hl) al
  | non => exact h1.elim
  | bl _ => exact h1.elim
  | int _ => exact h1.elim
  | str _ => exact h1.elim
def rCatL (K : PySem.W.Frag) : R2 := fun x y H Q => ∃ a b xs ys, x = .ref a ∧ y = .ref b ∧ SqX K H a xs ∧ SqX K H b ys ∧ xs.length + ys.length ≤ sizeLine ∧ ∀ p, H p = none → Q (.ref p) (upd H p (.lst (xs ++ ys)))
theorem plain_x {X : Cx} {pins : List (Addr × Obj)} {σ : L2.St} {H : Hp} {s : Shared} {a : Addr} {xs : List V} (I : L2.Inv X pins σ H s) (h : SqX X.K H a xs) : ∃ (its : List Value) (n : Nat), Vals xs its ∧ s.heap.get? a = some { cls := .type "list", data := .seq its.toArray n } := by
  rcases h with h | ⟨its, n, k, _, v⟩
  · obtain ⟨_, its, n, v, e⟩ := h.ok I.hok
    exact ⟨its, n, v, e⟩
  · exact ⟨its, n, v, I.kIn a _ k⟩
theorem op_catL : OpR X (binaryOp .Add) (rCatL X.K) := by
  intro pins s σ H x y v u Q I rx ry h -- k09
  obtain ⟨a, b, xs, ys, rfl, rfl, ha, hb, hz, q⟩ := h
  cases rx
  cases ry
  obtain ⟨us, n1, ra, g1⟩ := plain_x I ha
  obtain ⟨ws, n2, rb, g2⟩ := plain_x I hb
  have ea := ra.length
  have eb := rb.length
  refine PySem.P.add_list g1 g2 ?_ (by rw [List.size_toArray, List.size_toArray]; omega)
  rw [show us.toArray ++ ws.toArray = (us ++ ws).toArray by simp]
  exact ⟨.ref _, _, I.lnew (t' := s.toks) (ra.append rb) (by rw [List.length_append]; omega), rfl, q _ I.fresh⟩
def dCat (a b : DE) : DA := fun Γ Q => a Γ fun d Γ1 => b Γ1 fun e Γ2 => match d, e with | .list xs, .list ys => xs.length + ys.length ≤ 1000000 ∧ Q (xs ++ ys) Γ2 | _, _ => False
theorem pdl_cat {a b : Expr} {pos : Pos} {da db : DE} (ha : PDE X R a da) (hb : PDE X R b db) : PDL X R (.BinOp a .Add b pos) (dCat da db) := by
  refine ⟨pe_imp (pe_op op_catL ha.pe hb.pe) fun σ H Q ⟨Γ, D, r, q⟩ => ?_, fun Γ W W' m h => ha.mono Γ _ _ (fun d Γ1 q => hb.mono Γ1 _ _ (fun e Γ2 q2 => ?_) q) h⟩
  · refine goE r ha.mono q fun d Γ1 v H1 D1 h1 r1 s1 q1 => goE r1 hb.mono h1 fun e Γ2 w H2 D2 h2 r2 s2 q2 => ?_
    split at h2
    · have q1' := dp_mono s2.d q1
      cases q1' with
      | lst s al =>
        cases q2 with
        | lst s' al' =>
          refine ⟨_, _, _, _, rfl, rfl, sqX_mono r2.sub s, sqX_mono r2.sub s', by rw [dpAll_len al, dpAll_len al']; exact szM h2.1, fun p hp => ?_⟩
          exact h2.2 p _ _ D2 (r2.grow (Grow.tmp r2.sub hp)) ((s1.trans s2).trans (Grow.tmp r2.sub hp).step) (step_free (s1.trans s2) hp) upd_same (d_none r2.sub hp) (mine_no r2 hp) (dpAll_app al al')
    · exact h2.elim
  · split at q2
    · exact ⟨q2.1, m _ _ q2.2⟩
    · exact q2
def dJoin (z : Str) (b : DE) : DE := fun Γ Q => b Γ fun e Γ2 => ∃ ys : List Str, (e = .list (ys.map .str) ∨ e = .tuple (ys.map .str)) ∧ (ys.map (·.length)).sum + ys.length * z.length ≤ 16777216 ∧ Q (.str (Txt.join z ys)) Γ2
theorem pde_join {z : Str} {k : Nat} {e : Expr} {p0 apos pos : Pos} {b : DE} (he : PDE X R e b) (hs : starEach [e] X.env = [(false, eval e X.env)] := by rfl) (hbase : attributeBase (.Constant (.str z) k p0) "join" X.env (eval (.Constant (.str z) k p0) X.env) = eval (.Constant (.str z) k p0) X.env := by rfl) (hline : (apos.endLine == pos.line) = true := by rfl) :
    PDE X R (.Call (.Attribute (.Constant (.str z) k p0) "join" apos) [e] [] pos) (dJoin z b) := by
  refine ⟨pe_imp (pe_join pe_str he.pe hs hbase hline) fun σ H Q ⟨Γ, D, r, q⟩ => ?_, fun Γ W W' m h => he.mono Γ _ _ (fun e Γ2 ⟨ys, e2, e3, q2⟩ => ⟨ys, e2, e3, m _ _ q2⟩) h⟩
  refine ⟨⟨z, rfl⟩, goE r he.mono q fun e Γ2 w H2 D2 h2 r2 s2 q2 => ?_⟩
  obtain ⟨ys, e2, e3, q3⟩ := h2
  rcases e2 with e2 | e2
  · subst e2
    cases q2 with
    | lst s al =>
      have e := dpAll_strsV al
      subst e
      exact ⟨z, _, ys, rfl, rfl, .inl (sqL_mono r2.sub s), e3, q3 _ H2 D2 r2 s2 (.str _)⟩
  · subst e2
    cases q2 with
    | tup s al =>
      have e := dpAll_strsV al
      subst e
      exact ⟨z, _, ys, rfl, rfl, .inr (sqT_mono r2.sub s), e3, q3 _ H2 D2 r2 s2 (.str _)⟩
def dFmt (a : DE) : DE := fun Γ Q => a Γ fun d Γ1 => match d with | .str y => y.length ≤ 1000000 ∧ Q (.str y) Γ1 | .int i => i.natAbs.log2 < 1920 ∧ Q (.str (toString i)) Γ1 | _ => False
theorem pde_fmt {e : Expr} {pos : Pos} {a : DE} (h : PDE X R e a) : PDE X R (.FormattedValue e (-1) none pos) (dFmt a) := by
  refine ⟨pe_imp (pe_fmt h.pe) fun σ H Q ⟨Γ, D, r, q⟩ => ?_, fun Γ W W' m q => h.mono Γ _ _ (fun d Γ1 z => by cases d <;> first | exact ⟨z.1, m _ _ z.2⟩ | exact z) q⟩
  refine goE r h.mono q fun d Γ1 v H1 D1 h1 r1 s1 q1 => ?_
  cases q1 with
  | str y => exact .inl ⟨y, rfl, szM h1.1, h1.2 _ H1 D1 r1 s1 (.str _)⟩
  | int i => exact .inr ⟨i, rfl, h1.1, h1.2 _ H1 D1 r1 s1 (.str _)⟩
  | non => exact h1.elim
  | bl _ => exact h1.elim
  | lst _ _ => exact h1.elim
  | tup _ _ => exact h1.elim
inductive PDJ (X : Cx) (R : Root) : List Expr → List DE → Prop where
  | nil : PDJ X R [] []
  | cons {e : Expr} {t : DE} {es : List Expr} {ts : List DE} (h : PDE X R e t) (r : PDJ X R es ts) : PDJ X R (e :: es) (t :: ts)
def dJs : List DE → Str → DEnv → (Str → DEnv → Prop) → Prop
  | [], acc, Γ, Q => Q acc Γ
  | t :: ts, acc, Γ, Q => t Γ fun d Γ1 => match d with | .str y => (acc ++ y).length ≤ 1000000 ∧ dJs ts (acc ++ y) Γ1 Q | _ => False
theorem pdj_pj {es : List Expr} {ts : List DE} (h : PDJ X R es ts) : PJ X es (ts.map (liftE X.K R)) := by
  induction h with
  | nil => exact .nil
  | cons h r ih => exact .cons h.pe ih
theorem pdj_mono {es : List Expr} {ts : List DE} (h : PDJ X R es ts) : ∀ (acc : Str) Γ (W W' : Str → DEnv → Prop), (∀ x Γ, W x Γ → W' x Γ) → dJs ts acc Γ W → dJs ts acc Γ W' := by
  induction h with
  | nil => exact fun acc Γ W W' m q => m _ _ q
  | cons h r ih => exact fun acc Γ W W' m q => h.mono Γ _ _ (fun d Γ1 z => by cases d <;> first | exact ⟨z.1, ih _ Γ1 W W' m z.2⟩ | exact z) q
theorem pdj_run {es : List Expr} {ts : List DE} (h : PDJ X R es ts) : ∀ (acc : Str) {σ : L2.St} {H D : Hp} {Γ : DEnv} (W : Str → DEnv → Prop) (Q : Str → Hp → Prop), Rep X.K R σ H Γ D → dJs ts acc Γ W →
    (∀ out Γ' H' D', W out Γ' → Rep X.K R σ H' Γ' D' → Step σ Γ D H Γ' D' H' → Q out H') → tJs (ts.map (liftE X.K R)) acc σ H Q := by
  induction h with
  | nil => exact fun acc σ H D Γ W Q r q k => k acc Γ H D q r Step.refl
  | cons h r ih =>
    intro acc σ H D Γ W Q rp q k
    refine goE rp h.mono q fun d Γ1 v H1 D1 h1 r1 s1 q1 => ?_
    cases q1 with
    | str y => exact ⟨y, rfl, szM h1.1, ih (acc ++ y) W Q r1 h1.2 fun out Γ' H' D' w r' s' => k out Γ' H' D' w r' (s1.trans s')⟩
    | non => exact h1.elim
    | bl _ => exact h1.elim
    | int _ => exact h1.elim
    | lst _ _ => exact h1.elim
    | tup _ _ => exact h1.elim
def dJoined (ts : List DE) : DE := fun Γ Q => dJs ts Str.empty Γ fun out Γ1 => Q (.str out) Γ1
theorem pde_joined {v1 v2 : Expr} {rest : List Expr} {ts : List DE} {pos : Pos} (h : PDJ X R (v1 :: v2 :: rest) ts) : PDE X R (.JoinedStr (v1 :: v2 :: rest) pos) (dJoined ts) := by
  refine ⟨pe_imp (pe_joined (pdj_pj h)) fun σ H Q ⟨Γ, D, r, q⟩ => ?_, fun Γ W W' m q => pdj_mono h _ Γ _ _ (fun x Γ1 z => m _ _ z) q⟩
  exact pdj_run h Str.empty _ _ r q fun out Γ' H' D' w r' s' => w _ H' D' r' s' (.str _)
end
end DL

set_option Elab.async false
set_option linter.all false
set_option maxRecDepth 100000

namespace DL
open PySem PySem.Spec PyProof.Rows L2


structure Has (P : Program) (w : World) (K : PySem.W.Frag) (mg : Str → Option Value) (base : Heap) (x : Str) (k : Nat) (ps : List Str) (sp : Sp) : Prop where
  ex : ∃ (f : Addr) (fd : FuncData), FnOk P w K mg base CX0 k f fd ps sp ∧ mg x = some (.ref f) ∧ PySem.W.keepIn K (.ref f) = true ∧ Binds K fd ps []
theorem Has.mono {P : Program} {w : World} {K : PySem.W.Frag} {mg : Str → Option Value} {base : Heap} {x : Str} {j k : Nat} {ps : List Str} {sp : Sp} (h : Has P w K mg base x j ps sp) (l : j ≤ k) : Has P w K mg base x k ps sp := by
  obtain ⟨f, fd, a, b, c, d⟩ := h.ex
  exact ⟨f, fd, a.mono l, b, c, d⟩
theorem Has.imp {P : Program} {w : World} {K : PySem.W.Frag} {mg : Str → Option Value} {base : Heap} {x : Str} {k : Nat} {ps : List Str} {sp sp' : Sp} (h : Has P w K mg base x k ps sp) (i : ∀ vs H Q E, sp' vs H Q E → sp vs H Q E) : Has P w K mg base x k ps sp' := by
  obtain ⟨f, fd, a, b, c, d⟩ := h.ex
  exact ⟨f, fd, a.imp i, b, c, d⟩
def spN (K : PySem.W.Frag) (t : List PyData → (List PyData → Prop) → Prop) : Sp := fun vs H Q _ => ∃ D ds, Sub D H ∧ DpAll K D vs ds ∧
  t ds fun rs => ∀ p xs H' D', Grow D H D' H' → H p = none → H' p = some (.lst xs) → D' p = none → DpAll K D' xs rs → Q (.ref p) H'
abbrev NSpec := List PyData → (List PyData → Prop) → Prop
def MonoN (t : NSpec) : Prop := ∀ ds (W W' : List PyData → Prop), (∀ z, W z → W' z) → t ds W → t ds W'
section
variable {X : Cx} {R : Root} {K : PySem.W.Frag} {σ : L2.St} {H D : Hp} {Γ : DEnv}
theorem pde_callH {k : Nat} {ps : List Str} {t : PSpec} {x : Str} {p pos : Pos} {e : Expr} {es : List Expr} {a : DA} (mt : MonoP t) (h : Has X.prog X.w X.K X.mg X.base x k ps (spP X.K t)) (hr : Room k X.A) (ha : PDA X R (e :: es) a)
    (hg : Gl X x := by rfl) (hdb : (x == ("__debug__" : Str)) = false := by decide) (he : starEach (e :: es) X.env = (false, eval e X.env) :: starEach es X.env := by rfl) (hpl : (backTo pos (starEach es X.env)).any (·.1) = false := by rfl) : PDE X R (.Call (.Name x p) (e :: es) [] pos) (dCallP t a) := by
  obtain ⟨f, fd, F, hm, hk, hb⟩ := h.ex
  exact DL.pde_call mt F hr hm hk hb pass0 ha hg hdb he hpl
theorem pde_callHF (i : Nat) {k : Nat} {ps : List Str} {t : FSpec} {x y : Str} {py p pos : Pos} {es : List Expr} {a : DA} (mt : MonoF t) (h : Has X.prog X.w X.K X.mg X.base x k ps (spF X.K t)) (hr : Room k X.A) (ha : PDA X R es a)
    (hN : X.N[i]? = some y := by rfl) (hv : Vis X.env.scope y := by first | exact Or.inl rfl | exact Or.inr (Or.inl rfl) | exact Or.inr (Or.inr rfl)) (hd : (y == ("__debug__" : Str)) = false := by decide) (hcd : (y == ("__classdict__" : Str)) = false := by decide)
    (hg : Gl X x := by rfl) (hdb : (x == ("__debug__" : Str)) = false := by decide) (he : starEach (.Name y py :: es) X.env = (false, eval (.Name y py) X.env) :: starEach es X.env := by rfl) (hpl : (backTo pos (starEach es X.env)).any (·.1) = false := by rfl) : PDE X R (.Call (.Name x p) (.Name y py :: es) [] pos) (dCallF i t a) := by
  obtain ⟨f, fd, F, hm, hk, hb⟩ := h.ex
  exact pde_callF i mt F hr hm hk hb pass0 ha hN hv hd hcd hg hdb he hpl
def dCallN (t : NSpec) (a : DA) : DA := fun Γ Q => a Γ fun ds Γ1 => t ds fun rs => Q rs Γ1
theorem dCallN_mono {t : NSpec} {a : DA} (mt : MonoN t) (ma : MonoK a) : MonoK (dCallN t a) := fun Γ W W' m h => ma Γ _ _ (fun ds Γ1 q => mt ds _ _ (fun z w => m z Γ1 w) q) h
theorem mine_old {p : Addr} (r : Rep K R σ H Γ D) (hp : H p = none) : ¬ Mine σ Γ p := fun ⟨i, e1, e2⟩ => by
  rcases e2 with ⟨ds, e2⟩ | ⟨ds, e2⟩
  · obtain ⟨a, xs, q1, q2, _⟩ := r.own i ds e2
    rw [e1] at q1
    cases q1
    rw [hp] at q2; cases q2
  · obtain ⟨a, xs, _, q1, q2, _⟩ := r.arg i ds e2
    rw [e1] at q1
    cases q1
    rw [hp] at q2; cases q2
theorem pdl_callH {k : Nat} {ps : List Str} {t : NSpec} {x : Str} {p pos : Pos} {e : Expr} {es : List Expr} {a : DA} (mt : MonoN t) (h : Has X.prog X.w X.K X.mg X.base x k ps (spN X.K t)) (hr : Room k X.A) (ha : PDA X R (e :: es) a)
    (hg : Gl X x := by rfl) (hdb : (x == ("__debug__" : Str)) = false := by decide) (he : starEach (e :: es) X.env = (false, eval e X.env) :: starEach es X.env := by rfl) (hpl : (backTo pos (starEach es X.env)).any (·.1) = false := by rfl) : PDL X R (.Call (.Name x p) (e :: es) [] pos) (dCallN t a) := by
  obtain ⟨f, fd, F, hm, hk, hb⟩ := h.ex
  refine ⟨pe_imp (L2.pe_call F hr hg hm hk hb .nil pass0 ha.pa hdb he hpl) fun σ H Q ⟨Γ, D, r, q⟩ => ?_, dCallN_mono mt ha.mono⟩
  refine goA r ha.mono q fun ds Γ1 vs H1 D1 h1 r1 s1 q1 => ?_
  rw [List.append_nil]
  refine ⟨D1, ds, r1.sub, q1, mt ds _ _ (fun z w p xs H' D' g n hp hD dp => ?_) h1⟩
  exact w p xs H' D' (r1.grow g) (s1.trans g.step) (step_free s1 n) hp hD (mine_old r1 n) dp
theorem pdl_callH0 {k : Nat} {ps : List Str} {t : NSpec} {x : Str} {p pos : Pos} (mt : MonoN t) (h : Has X.prog X.w X.K X.mg X.base x k ps (spN X.K t)) (hr : Room k X.A)
    (hg : Gl X x := by rfl) (hdb : (x == ("__debug__" : Str)) = false := by decide) : PDL X R (.Call (.Name x p) [] [] pos) (dCallN t dNil) := by
  obtain ⟨f, fd, F, hm, hk, hb⟩ := h.ex
  refine ⟨pe_imp (L2.pe_call0 F hr hg hm hk hb .nil pass0 hdb) fun σ H Q ⟨Γ, D, r, q⟩ => ?_, dCallN_mono mt dNil_mono⟩
  refine ⟨D, [], r.sub, .nil, mt [] _ _ (fun z w p xs H' D' g n hp hD dp => ?_) q⟩
  exact w p xs H' D' (r.grow g) g.step n hp hD (mine_old r n) dp


abbrev NDS := (List PyData → Prop) → DEnv → Prop
structure PDN (X : Cx) (R : Root) (st : List Stmt) (s : NDS) : Prop where
  run : ∃ t : TS, PSs X st t ∧ ∀ (E : Ends) (σ : L2.St) (H : Hp) (Γ : DEnv) (D : Hp) (W : List PyData → Prop), Rep X.K R σ H Γ D → s W Γ →
    (∀ rs σ' Γ' p xs H' D', W rs → Rep X.K R σ' H' Γ' D' → Same D D' → R.H0 p = none → H' p = some (.lst xs) → D' p = none → DpAll X.K D' xs rs → E.rt (.ref p) H') → t E σ H
  mono : ∀ (W W' : List PyData → Prop) Γ, (∀ rs, W rs → W' rs) → s W Γ → s W' Γ
theorem pdn_ret {e : Expr} {pos : Pos} {a : DA} (h : PDL X R e a) : PDN X R [.Return (some e) pos] (fun W Γ => a Γ fun rs _ => W rs) := by
  refine ⟨⟨_, pss_one (ps_ret h.pl), fun E σ H Γ D W r q k => ?_⟩, fun W W' Γ m q => h.mono Γ _ _ (fun rs _ z => m rs z) q⟩
  refine goL r h.mono q fun ds Γ1 p xs H1 D1 h1 r1 s1 hp hp1 hD1 nm q1 => ?_
  exact k ds σ Γ1 p xs H1 D1 h1 r1 s1.d (h0_none r hp) hp1 hD1 q1
theorem pdn_cons {st : Stmt} {rest : List Stmt} {s : DS} {t : NDS} (h : PDS X R st s) (h2 : PDN X R rest t) : PDN X R (st :: rest) (fun W Γ => s { nx := t W, rt := fun _ _ => False } Γ) := by
  obtain ⟨⟨u, hu, k2⟩, m2⟩ := h2
  refine ⟨⟨_, pss_cons h.ps hu, fun E σ H Γ D W r q k => ?_⟩, fun W W' Γ m q => h.mono { nx := t W, rt := fun _ _ => False } { nx := t W', rt := fun _ _ => False } Γ ⟨fun Γ1 z => m2 W W' Γ1 m z, fun _ _ z => z, fun _ z => z, fun _ z => z⟩ q⟩
  refine ⟨Γ, D, r, h.mono { nx := t W, rt := fun _ _ => False } _ Γ ⟨fun Γ1 z σ' H' D' r' sm => ?_, fun _ _ z => z.elim, fun _ z => z.elim, fun _ z => z.elim⟩ q⟩
  exact k2 E σ' H' Γ1 D' W r' z fun rs σ2 Γ2 p xs H2 D2 w r2 s2 a b c d => k rs σ2 Γ2 p xs H2 D2 w r2 (sm.trans s2) a b c d
end
theorem okN {P : Program} {w : World} {K : PySem.W.Frag} {mg : Str → Option Value} {base : Heap} {x qual : Str} {st : Stmt} {f : Addr} {fd : FuncData} {N ps : List Str} {k : Nat} {t : NSpec} (F : Fun K x qual st f fd) (S : FnScope N ps (defScope st)) (len : ∀ ds Q, t ds Q → ds.length = ps.length)
    (hbody : ∀ (cdv : Value) (A : Around) (outer : List Env) (s : Shared) (H : Hp) (E : XK) (R : Root), Room k (A.deeper (envOfC qual (defScope st) s.heap.objs.size f cdv)) →
      ∃ b : NDS, PDN (cxOf CX0 P w K mg base N qual (defScope st) f cdv A outer s H E).nox R (defBody st) b ∧ ∀ ds (W : List PyData → Prop), t ds W → b W (startD N ds)) : FnOk P w K mg base CX0 (k + 1) f fd ps (spN K t) := by
  refine F.ok S (fun vs H Q E h => ?_) (fun cdv A outer s H vs Q E hr h => ?_)
  · obtain ⟨D, ds, _, hd, q⟩ := h
    rw [dpAll_len hd]
    exact len ds _ q
  · obtain ⟨D, ds, u, hd, q⟩ := h
    obtain ⟨b, ⟨⟨t', ht, hk⟩, hm⟩, hq⟩ := hbody cdv A outer s H E ⟨H, D, none⟩ hr
    refine ⟨_, ht, ?_⟩
    refine hk _ _ _ (startD N ds) D _ (rep_start u hd) (hq ds _ q) fun rs σ' Γ' p xs H' D' w r' sm n hp hD dp => ?_
    exact w p xs H' D' ⟨fun b o e => r'.kept b o e (fun z => nomatch z), r'.ext, r'.sub, r'.new⟩ n hp hD dp


structure KTab (K : PySem.W.Frag) (w : World) (d : Addr) (T : Str → Option PyData) : Prop where
  ex : ∃ es n, KDict K w d es n ∧ ∀ z, ∃ r, PySem.W.nsIn K d z = some r ∧ (match T z with
    | none => r = none
    | some y => ∃ u v, r = some u ∧ RelV v u ∧ ∀ D, Dp K D v y)
section
variable {X : Cx} {R : Root} {K : PySem.W.Frag} {σ : L2.St} {H D : Hp} {Γ : DEnv}
def dGetT (T : Str → Option PyData) (a : DE) : DE := fun Γ Q => a Γ fun d Γ1 => match d with | .str z => Q ((T z).getD .none) Γ1 | _ => False
def dInT (neg : Bool) (T : Str → Option PyData) (a : DE) : DE := fun Γ Q => a Γ fun d Γ1 => match d with | .str z => Q (.bool (if neg then !(T z).isSome else (T z).isSome)) Γ1 | _ => False
theorem dGetT_mono {T : Str → Option PyData} {a : DE} (ma : MonoK a) : MonoK (dGetT T a) := fun Γ W W' m h => ma Γ _ _ (fun d Γ1 q => by cases d <;> first | exact m _ _ q | exact q) h
theorem dInT_mono {neg : Bool} {T : Str → Option PyData} {a : DE} (ma : MonoK a) : MonoK (dInT neg T a) := fun Γ W W' m h => ma Γ _ _ (fun d Γ1 q => by cases d <;> first | exact m _ _ q | exact q) h
theorem tab_get {T : Str → Option PyData} {d : Addr} {z : Str} (k : KTab K X.w d T) : ∃ es n r, KDict K X.w d es n ∧ PySem.W.nsIn K d z = some r ∧ r.isSome = (T z).isSome ∧ ∃ v, RelV v (r.getD .none) ∧ ∀ D, Dp K D v ((T z).getD .none) := by
  obtain ⟨es, n, kd, h⟩ := k.ex
  obtain ⟨r, e, q⟩ := h z
  refine ⟨es, n, r, kd, e, ?_⟩
  cases hT : T z with
  | none =>
    rw [hT] at q
    subst q
    exact ⟨rfl, .non, rfl, fun _ => .non⟩
  | some y =>
    rw [hT] at q
    obtain ⟨u, v, e1, rv, dp⟩ := q
    subst e1
    exact ⟨rfl, v, rv, dp⟩
theorem pde_getT {T : Str → Option PyData} {x : Str} {d : Addr} {p apos cpos : Pos} {e : Expr} {a : DE} (kt : KTab X.K X.w d T) (hm : X.mg x = some (.ref d)) (he : PDE X R e a) (m : M1 X (.Name x p) "get" apos e cpos) (hg : Gl X x := by rfl) (hdb : (x == ("__debug__" : Str)) = false := by decide) :
    PDE X R (.Call (.Attribute (.Name x p) "get" apos) [e] [] cpos) (dGetT T a) := by
  refine ⟨⟨fun pins s σ H Q I q => ?_⟩, dGetT_mono he.mono⟩
  have hn := pe_glob (pos := p) (v := .ref d) hg hm rfl hdb
  refine wpAny_Call_method m.base m.few m.line PySem.F.plainAttrs_dict PySem.F.slot_dict_get PySem.F.type_dict_get (thn (hn.run pins s σ H (fun x H' => x = .ref d ∧ H' = H) I ⟨rfl, rfl⟩) fun u s1 ⟨x, H1, I1, rx, ex, eh⟩ => ?_)
  subst ex eh
  obtain rfl : u = Value.ref d := rx -- k09
  obtain ⟨es0, n0, kd0, _⟩ := kt.ex
  have mo := PySem.W.mapOf_K (prog := X.prog) (w := X.w) I1.kIn kd0.at_ kd0.lit
  refine ⟨mo.typeIs, fun b e => ?_, ?_⟩
  · cases e
    exact mo.noDict _ rfl
  rw [m.trees]
  obtain ⟨Γ, D, r0, q⟩ := q
  have q' : liftE X.K R a σ H1 fun y H2 => ∃ (z : Str) (D2 : Hp) (Γ2 : DEnv), y = .str z ∧ ∀ v, (∀ D, Dp X.K D v ((T z).getD .none)) → Q v H2 := goE r0 he.mono q fun dd Γ1 v H1 D1 h1 r1 st q1 => by
    cases q1 with
    | str z => exact ⟨z, D1, Γ1, rfl, fun v dp => h1 v H1 D1 r1 st (dp D1)⟩
    | non => exact h1.elim
    | bl _ => exact h1.elim
    | int _ => exact h1.elim
    | lst _ _ => exact h1.elim
    | tup _ _ => exact h1.elim
  refine Calls.callWith_builtin rfl (Calls.evalArgs_plain (Calls.spliced_cons (thn (he.pe.run pins s1 σ H1 _ I1 q') fun iv s2 ⟨y, H2, I2, ry, z, D2, Γ2, ey, k⟩ => Calls.spliced_nil ?_)))
  subst ey
  obtain ⟨es, n, r, kd, e1, _, v, rv, dp⟩ := tab_get (z := z) kt
  have mo2 := PySem.W.mapOf_K (prog := X.prog) (w := X.w) I2.kIn kd.at_ kd.lit
  obtain ⟨t, rfl⟩ := ry
  refine call_meetsIn PySem.F.slot_dict_get mo2.typeIs PySem.F.entry_dict_get (PySem.F.args_dict_get_2 _ _) (meets_dict_get (PySem.strKind X.prog X.w) d (PySem.strKind_is X.prog X.w z t) kd.low) ⟨_, mo2, ?_⟩
  rw [PySem.W.find_K kd.at_ e1]
  exact ⟨v, H2, I2.tok _, rv, k v dp⟩
theorem pdt_inT {T : Str → Option PyData} {x : Str} {d : Addr} {p pos : Pos} {e : Expr} {a : DE} (kt : KTab X.K X.w d T) (hm : X.mg x = some (.ref d)) (he : PDE X R e a) (hg : Gl X x := by rfl) (hdb : (x == ("__debug__" : Str)) = false := by decide) (hb : behindInMarks .In (.Name x p) = false := by rfl) :
    PDT X R (.Compare e [.In] [.Name x p] pos) (dTest (dInT false T a)) := by
  obtain ⟨es, n, kd, kz⟩ := kt.ex
  refine ⟨pt_imp (pt_cmpR (op_in_kd kd) he.pe (pe_glob (pos := p) (v := .ref d) hg hm rfl hdb) hb) fun σ H Q ⟨Γ, D, r, q⟩ => ?_, dTest_mono (dInT_mono he.mono)⟩
  refine goE r he.mono q fun dd Γ1 v H1 D1 h1 r1 s1 q1 => ?_
  cases q1 with
  | str z =>
    obtain ⟨es', n', r', kd', e1, e2, _⟩ := tab_get (z := z) kt
    refine ⟨z, r', rfl, rfl, e1, _, rfl, ?_⟩
    rw [e2]
    exact h1 H1 D1 r1 s1
  | non => exact h1.elim
  | bl _ => exact h1.elim
  | int _ => exact h1.elim
  | lst _ _ => exact h1.elim
  | tup _ _ => exact h1.elim


theorem itd_rngC {lo c : Int} {n : Nat} : ItD K (Itc lo c n) D ((List.range n).map fun i => .int (lo + (i : Nat) * c)) := by
  refine ⟨fun i H D1 s u hi => by show i < n; simpa using hi, fun H D1 s u => by show n ≤ _; simp, fun i H D1 x H' s u hi y => ?_⟩
  obtain ⟨e, e2⟩ := y
  subst e e2
  refine ⟨D1, _, Grow.refl u, ?_, .int _⟩
  rw [List.getElem?_map, List.getElem?_range (by simpa using hi)]
  rfl
def down (n : Nat) : List PyData := (List.range n).map fun i => .int ((n : Int) - 1 - (i : Nat))
def dRev1 (a : DE) : DI := fun Γ Q => a Γ fun d Γ1 => match d with | .int j => (-(2 ^ 62) ≤ j ∧ j < 2 ^ 62) ∧ Q (down j.toNat) Γ1 | _ => False
theorem dRev1_mono {a : DE} (ma : MonoK a) : MonoK (dRev1 a) := fun Γ W W' m h => ma Γ _ _ (fun d Γ1 q => by cases d <;> first | exact ⟨q.1, m _ _ q.2⟩ | exact q) h
theorem pdi_rev1 {tg e : Expr} {p p2 pos pos2 : Pos} {a : DE} (he : PDE X R e a) (hm : X.mg "reversed" = none) (hm2 : X.mg "range" = none) (hg : Gl X "reversed" := by rfl) (hg2 : Gl X "range" := by rfl)
    (hs : starEach [.Call (.Name "range" p2) [e] [] pos2] X.env = (false, eval (.Call (.Name "range" p2) [e] [] pos2) X.env) :: starEach [] X.env := by rfl) (na : starEach [e] X.env = (false, eval e X.env) :: starEach [] X.env := by rfl) :
    PDI X R tg (.Call (.Name "reversed" p) [.Call (.Name "range" p2) [e] [] pos2] [] pos) (dRev1 a) := by
  refine ⟨DL.pi_imp (pi_revR hg hm (prg_1 hg2 hm2 he.pe na) hs) fun σ H RR ⟨Γ, D, r, q⟩ => ?_, dRev1_mono he.mono⟩
  refine goE r he.mono q fun dd Γ1 v H1 D1 h1 r1 s1 q1 => ?_
  cases q1 with
  | int j =>
    refine ⟨j, rfl, by decide, by decide, h1.1.1, h1.1.2, ?_⟩
    have e1 : (j - 0).toNat = j.toNat := by rw [Int.sub_zero]
    have e2 : down j.toNat = (List.range (j - 0).toNat).map fun i => .int ((0 : Int) + (((j - 0).toNat : Nat) : Int) - 1 + ((i : Nat) : Int) * (-1)) := by
      rw [e1]
      unfold down
      exact List.map_congr_left fun i _ => by congr 1; omega
    have it : ItD X.K (Itc (0 + (((j - 0).toNat : Nat) : Int) - 1) (-1) (j - 0).toNat) D1 (down j.toNat) := by
      rw [e2]
      exact itd_rngC
    exact h1.2 _ H1 D1 r1 s1 it
  | non => exact h1.elim
  | bl _ => exact h1.elim
  | str _ => exact h1.elim
  | lst _ _ => exact h1.elim
  | tup _ _ => exact h1.elim


theorem pde_fdiv {a b : Expr} {pos : Pos} {da db : DE} (ha : PDE X R a da) (hb : PDE X R b db) : PDE X R (.BinOp a .FloorDiv b pos) (dOp (bInt (fun i j => i / j) CDivW) da db) := pd_op op_fdivW bInt_ok bInt_mono ha hb
def bRep : PyData → PyData → (PyData → Prop) → Prop := fun d e Q => match d, e with
  | .tuple xs, .int k => xs ≠ [] ∧ 2 ≤ k ∧ k ≤ 1000 ∧ xs.length ≤ 1000 ∧ Q (.tuple (List.replicate k.toNat xs).flatten)
  | _, _ => False
theorem bRep_mono : MonoB bRep := fun d e W W' m h => by
  unfold bRep at h ⊢
  split at h
  · exact ⟨h.1, h.2.1, h.2.2.1, h.2.2.2.1, m _ h.2.2.2.2⟩
  · exact h
theorem dpAll_rep {xs : List V} {ds : List PyData} (h : DpAll K D xs ds) : ∀ n : Nat, DpAll K D (List.replicate n xs).flatten (List.replicate n ds).flatten
  | 0 => .nil
  | n + 1 => by
    rw [List.replicate_succ, List.replicate_succ, List.flatten_cons, List.flatten_cons] -- k09
    exact dpAll_app h (dpAll_rep h n)
theorem bRep_ok : OpD K (rRepT K) bRep := fun D H x y d e Q u hx hy h => by
  unfold bRep at h
  split at h
  · rename_i ds k
    cases hy
    cases hx with
    | tup s al =>
      rename_i a xs
      obtain ⟨h1, h2, h3, h4, q⟩ := h
      refine ⟨_, _, _, rfl, rfl, sqT_mono u s, fun z => h1 ((dpAll_nil_iff al).mp z), h2, h3, by rw [dpAll_len al]; exact h4, fun p hp => ?_⟩
      have g := Grow.upd (o := .tup (List.replicate k.toNat xs).flatten) u hp
      exact q _ _ _ g (.tup (SqT.of upd_same) (dpAll_mono g.d (dpAll_rep al _)))
  · exact h.elim
theorem pde_rep {a b : Expr} {pos : Pos} {da db : DE} (ha : PDE X R a da) (hb : PDE X R b db) : PDE X R (.BinOp a .Mult b pos) (dOp bRep da db) := pd_op op_repT bRep_ok bRep_mono ha hb


structure B0 (mg : Str → Option Value) : Prop where
  int : mg "int" = none
  bool : mg "bool" = none
  str : mg "str" = none
  tuple : mg "tuple" = none
  list : mg "list" = none
  len : mg "len" = none
  all : mg "all" = none
  any : mg "any" = none
  zip : mg "zip" = none
  range : mg "range" = none
  reversed : mg "reversed" = none
  enumerate : mg "enumerate" = none
  isinstance : mg "isinstance" = none
  repr : mg "repr" = none
def HasStr (mg : Str → Option Value) (x z : Str) : Prop := ∃ t, mg x = some (.str z t)
theorem pd_globS {x z : Str} {pos : Pos} (h : HasStr X.mg x z) (hg : Gl X x := by rfl) (hdb : (x == ("__debug__" : Str)) = false := by decide) : PDE X R (.Name x pos) (dC (.str z)) := by
  obtain ⟨t, e⟩ := h
  exact pd_glob hg e (v := .str z) ⟨t, rfl⟩ (fun _ => .str z) hdb
def dIfL (t : DT) (a b : DA) : DA := fun Γ Q => t Γ fun c Γ1 => if c = true then a Γ1 Q else b Γ1 Q
theorem pdl_if {c e f : Expr} {pos : Pos} {t : DT} {a b : DA} (hc : PDT X R c t) (ha : PDL X R e a) (hb : PDL X R f b) : PDL X R (.IfExp c e f pos) (dIfL t a b) := by
  refine ⟨pe_imp (pe_ifExp hc.pt ha.pl hb.pl) fun σ H Q ⟨Γ, D, r, q⟩ => ?_, fun Γ W W' m q => hc.mono Γ _ _ (fun c Γ1 z => by
    cases c with
    | true => exact ha.mono Γ1 _ _ m z
    | false => exact hb.mono Γ1 _ _ m z) q⟩
  refine goT r hc.mono q fun c Γ1 H1 D1 h1 r1 s1 => ?_
  cases c with
  | true =>
    have h1 : a Γ1 _ := h1
    refine goL r1 ha.mono h1 fun ds Γ2 p xs H2 D2 h2 r2 s2 hp hp1 hD nm q2 => h2 p xs H2 D2 r2 (s1.trans s2) (step_free s1 hp) hp1 hD nm q2
  | false =>
    have h1 : b Γ1 _ := h1
    refine goL r1 hb.mono h1 fun ds Γ2 p xs H2 D2 h2 r2 s2 hp hp1 hD nm q2 => h2 p xs H2 D2 r2 (s1.trans s2) (step_free s1 hp) hp1 hD nm q2
end
theorem blkOk {N : List Str} {sc scope : Scope} {own : List (Str × Nat)} (kind : scope.kind = .function) (uniq : ∀ y ∈ scope.names, scope.names.lookup y.1 = some y.2) (ix : ∀ p ∈ own, N[p.2]? = some p.1)
    (free : ∀ y ∈ scope.names, y.2 = .free → sc.names.lookup y.1 = some .cell ∨ sc.names.lookup y.1 = some .free) (ow : ∀ y ∈ scope.names, y.2 = .local ∨ y.2 = .cell → y.1 ∈ own.map (·.1) ∨ y.1 ∉ N) : BlkOk N sc scope own := ⟨kind, uniq, ix, free, ow⟩
theorem pde_lele {X : Cx} {R : Root} {a b c : Expr} {pos : Pos} {da db dc : DE} (ha : PDE X R a da) (hb : PDE X R b db) (hc : PDE X R c dc) (hm : lastMarks [.LtE, .LtE] [b, c] = false := by rfl) : PDE X R (.Compare a [.LtE, .LtE] [b, c] pos) (dChain bLe bLe da db dc) := pde_chain op_leX op_leX bOrd_ok bOrd_ok bOrd_mono bOrd_mono ha hb hc hm
theorem pdt_lele {X : Cx} {R : Root} {a b c : Expr} {pos : Pos} {da db dc : DE} (ha : PDE X R a da) (hb : PDE X R b db) (hc : PDE X R c dc) (hm : lastMarks [.LtE, .LtE] [b, c] = false := by rfl) : PDT X R (.Compare a [.LtE, .LtE] [b, c] pos) (dTest (dChain bLe bLe da db dc)) := pdt_chain op_leX op_leX bOrd_ok bOrd_ok bOrd_mono bOrd_mono ha hb hc hm
theorem pde_lelt {X : Cx} {R : Root} {a b c : Expr} {pos : Pos} {da db dc : DE} (ha : PDE X R a da) (hb : PDE X R b db) (hc : PDE X R c dc) (hm : lastMarks [.LtE, .Lt] [b, c] = false := by rfl) : PDE X R (.Compare a [.LtE, .Lt] [b, c] pos) (dChain bLe bLt da db dc) := pde_chain op_leX op_ltX bOrd_ok bOrd_ok bOrd_mono bOrd_mono ha hb hc hm
theorem pdt_lelt {X : Cx} {R : Root} {a b c : Expr} {pos : Pos} {da db dc : DE} (ha : PDE X R a da) (hb : PDE X R b db) (hc : PDE X R c dc) (hm : lastMarks [.LtE, .Lt] [b, c] = false := by rfl) : PDT X R (.Compare a [.LtE, .Lt] [b, c] pos) (dTest (dChain bLe bLt da db dc)) := pdt_chain op_leX op_ltX bOrd_ok bOrd_ok bOrd_mono bOrd_mono ha hb hc hm
theorem pde_ltle {X : Cx} {R : Root} {a b c : Expr} {pos : Pos} {da db dc : DE} (ha : PDE X R a da) (hb : PDE X R b db) (hc : PDE X R c dc) (hm : lastMarks [.Lt, .LtE] [b, c] = false := by rfl) : PDE X R (.Compare a [.Lt, .LtE] [b, c] pos) (dChain bLt bLe da db dc) := pde_chain op_ltX op_leX bOrd_ok bOrd_ok bOrd_mono bOrd_mono ha hb hc hm
theorem pdt_ltle {X : Cx} {R : Root} {a b c : Expr} {pos : Pos} {da db dc : DE} (ha : PDE X R a da) (hb : PDE X R b db) (hc : PDE X R c dc) (hm : lastMarks [.Lt, .LtE] [b, c] = false := by rfl) : PDT X R (.Compare a [.Lt, .LtE] [b, c] pos) (dTest (dChain bLt bLe da db dc)) := pdt_chain op_ltX op_leX bOrd_ok bOrd_ok bOrd_mono bOrd_mono ha hb hc hm
theorem pde_ltlt {X : Cx} {R : Root} {a b c : Expr} {pos : Pos} {da db dc : DE} (ha : PDE X R a da) (hb : PDE X R b db) (hc : PDE X R c dc) (hm : lastMarks [.Lt, .Lt] [b, c] = false := by rfl) : PDE X R (.Compare a [.Lt, .Lt] [b, c] pos) (dChain bLt bLt da db dc) := pde_chain op_ltX op_ltX bOrd_ok bOrd_ok bOrd_mono bOrd_mono ha hb hc hm
theorem pdt_ltlt {X : Cx} {R : Root} {a b c : Expr} {pos : Pos} {da db dc : DE} (ha : PDE X R a da) (hb : PDE X R b db) (hc : PDE X R c dc) (hm : lastMarks [.Lt, .Lt] [b, c] = false := by rfl) : PDT X R (.Compare a [.Lt, .Lt] [b, c] pos) (dTest (dChain bLt bLt da db dc)) := pdt_chain op_ltX op_ltX bOrd_ok bOrd_ok bOrd_mono bOrd_mono ha hb hc hm
theorem blkOk0 {N : List Str} {sc scope : Scope} {own : List (Str × Nat)} (kind : scope.kind = .function) (uniq : ∀ y ∈ scope.names, scope.names.lookup y.1 = some y.2) (ix : ∀ p ∈ own, N[p.2]? = some p.1)
    (free : ∀ y ∈ scope.names, y.2 ≠ .free) (ow : ∀ y ∈ scope.names, y.2 = .local ∨ y.2 = .cell → y.1 ∈ own.map (·.1) ∨ y.1 ∉ N) : BlkOk N sc scope own := ⟨kind, uniq, ix, fun y h e => absurd e (free y h), ow⟩
end DL

set_option Elab.async false
set_option linter.all false
set_option maxRecDepth 100000

namespace DL
open PySem PySem.Spec PyProof.Rows L2
def forD (g : DG) (b : DS) (E : DEnds) : List PyData → DEnv → Prop
  | [], Γ => E.nx Γ
  | d :: r, Γ => g d Γ fun Γ2 => b { E with nx := forD g b E r, ct := forD g b E r, bk := E.nx } Γ2
def dForD (di : DI) (g : DG) (b : DS) : DS := fun E Γ => di Γ fun ds Γ1 => forD g b E ds Γ1
theorem forD_mono {g : DG} {b : DS} (mg : MonoG g) (mb : MonoS b) {E E' : DEnds} (l : Le E E') : ∀ (ds : List PyData) (Γ : DEnv), forD g b E ds Γ → forD g b E' ds Γ
  | [], Γ, h => l.nx _ h
  | d :: r, Γ, h => mg d Γ _ _ (fun Γ2 q => mb { E with nx := forD g b E r, ct := forD g b E r, bk := E.nx } { E' with nx := forD g b E' r, ct := forD g b E' r, bk := E'.nx } Γ2 ⟨fun Γ3 z => forD_mono mg mb l r Γ3 z, l.rt, l.nx, fun Γ3 z => forD_mono mg mb l r Γ3 z⟩ q) h
theorem forD_for {di : DI} {g : DG} {b : DS} (mi : MonoK di) {E : DEnds} {Γ : DEnv} (h : dForD di g b E Γ) : dFor di g b E Γ :=
  mi Γ _ _ (fun ds Γ1 q => ⟨fun i Γ' => forD g b E (ds.drop i) Γ', q, fun i d Γ' e p => by
    dsimp only at p
    obtain ⟨hi, e⟩ := List.getElem?_eq_some_iff.mp e
    rw [List.drop_eq_getElem_cons hi, e] at p
    exact p, fun Γ' p => by
    dsimp only at p
    rw [List.drop_length] at p
    exact p⟩) h
def lcD (g : DG) (t : DT) (e : DE) (vs : List Nat) (Q : List PyData → DEnv → Prop) : List PyData → List PyData → DEnv → Prop
  | [], acc, Γ => Q acc Γ
  | d :: r, acc, Γ => g d (wipeD Γ vs) fun Γ2 => t Γ2 fun b Γ3 => if b = true then e Γ3 fun y Γ4 => acc.length < 1000000 ∧ lcD g t e vs Q r (acc ++ [y]) (backD Γ4 Γ vs) else lcD g t e vs Q r acc (backD Γ3 Γ vs)
def dLcD (di : DI) (g : DG) (t : DT) (e : DE) (vs : List Nat) : DA := fun Γ Q => di Γ fun ds Γ1 => okW Γ1 vs ∧ lcD g t e vs Q ds [] Γ1
theorem lcD_mono {g : DG} {t : DT} {e : DE} {vs : List Nat} (mg : MonoG g) (mt : MonoK t) (me : MonoK e) {Q Q' : List PyData → DEnv → Prop} (l : ∀ a Γ, Q a Γ → Q' a Γ) : ∀ (ds acc : List PyData) (Γ : DEnv), lcD g t e vs Q ds acc Γ → lcD g t e vs Q' ds acc Γ
  | [], acc, Γ, h => l _ _ h
  | d :: r, acc, Γ, h => mg d _ _ _ (fun Γ2 q => mt Γ2 _ _ (fun b Γ3 z => by
    cases b with
    | true => exact me Γ3 _ _ (fun y Γ4 u => ⟨u.1, lcD_mono mg mt me l r _ _ u.2⟩) z
    | false => exact lcD_mono mg mt me l r _ _ z) q) h
theorem lcD_lc {di : DI} {g : DG} {t : DT} {e : DE} {vs : List Nat} (mi : MonoK di) {Γ : DEnv} {Q : List PyData → DEnv → Prop} (h : dLcD di g t e vs Γ Q) : dLc di g t e vs Γ Q :=
  mi Γ _ _ (fun ds Γ1 ⟨ok, q⟩ => ⟨ok, fun i acc Γ' => lcD g t e vs Q (ds.drop i) acc Γ', q, fun i d acc Γ' e p => by
    dsimp only at p
    obtain ⟨hi, e⟩ := List.getElem?_eq_some_iff.mp e
    rw [List.drop_eq_getElem_cons hi, e] at p
    exact p, fun acc Γ' p => by
    dsimp only at p
    rw [List.drop_length] at p
    exact p⟩) h
section
variable {X : Cx} {R : Root} {K : PySem.W.Frag}
theorem liftS_imp {s u : DS} (i : ∀ E Γ, u E Γ → s E Γ) {E : Ends} {σ : L2.St} {H : Hp} (h : liftS K R u E σ H) : liftS K R s E σ H := by
  obtain ⟨Γ, D, r, q⟩ := h
  exact ⟨Γ, D, r, i _ _ q⟩
theorem PDS.imp {st : Stmt} {s u : DS} (h : PDS X R st s) (m : MonoS u) (i : ∀ E Γ, u E Γ → s E Γ) : PDS X R st u := ⟨ps_imp h.ps fun E σ H q => liftS_imp i q, m⟩
theorem PDL.imp {e : Expr} {s u : DA} (h : PDL X R e s) (m : MonoK u) (i : ∀ Γ Q, u Γ Q → s Γ Q) : PDL X R e u := ⟨pe_imp h.pl fun σ H Q ⟨Γ, D, r, q⟩ => ⟨Γ, D, r, i _ _ q⟩, m⟩
theorem pds_forD {tg iter : Expr} {body : List Stmt} {di : DI} {g : DG} {js : List Nat} {b : DS} {pos : Pos} (hp : PassesOwn (model X.prog X.w) X.A X.env X.xe) (hc : X.calm = true) (hi : PDI X R tg iter di) (hg : PDG X R js tg g) (hb : PDSs X R body b)
    (hs : ∀ x, foldedSetIterable iter X.env x = pure x := by intro _; rfl) : PDS X R (.For tg iter body [] pos) (dForD di g b) :=
  (pds_for hp hc hi hg hb hs).imp (fun E E' Γ l h => hi.mono Γ _ _ (fun ds Γ1 q => forD_mono hg.mono hb.mono l ds Γ1 q) h) fun E Γ h => forD_for hi.mono h
theorem dLcD_mono {di : DI} {g : DG} {t : DT} {e : DE} {vs : List Nat} (mi : MonoK di) (mg : MonoG g) (mt : MonoK t) (me : MonoK e) : MonoK (dLcD di g t e vs) := fun Γ W W' m h => mi Γ _ _ (fun ds Γ1 ⟨ok, q⟩ => ⟨ok, lcD_mono mg mt me m ds [] Γ1 q⟩) h
theorem pdl_lcD {elt tg iter : Expr} {ifs : List Expr} {scope : Scope} {own : List (Str × Nat)} {pos : Pos} {di : DI} {g : DG} {t : DT} {e : DE} {js : List Nat} (hc : X.calm = true) (hN : X.N.Nodup) (hi : PDI X R tg iter di) (ok : BlkOk X.N X.env.scope scope own)
    (hg : ∀ (s : Shared) (H : Hp) (C : Addr) (cl : List (Str × Addr)) (fp : List Addr), PDG (X.blk s H scope (compEnvC scope cl C X.env) fp) R js tg g) (ht : ∀ (s : Shared) (H : Hp) (C : Addr) (cl : List (Str × Addr)) (fp : List Addr), PDTs (X.blk s H scope (compEnvC scope cl C X.env) fp) R ifs t)
    (he : ∀ (s : Shared) (H : Hp) (C : Addr) (cl : List (Str × Addr)) (fp : List Addr), PDE (X.blk s H scope (compEnvC scope cl C X.env) fp) R elt e) (hj : ∀ j ∈ js, j ∈ own.map (·.2) := by decide) (hs : ∀ x, foldedSetIterable iter X.env x = pure x := by intro _; rfl) :
    PDL X R (.ListComp elt [⟨tg, iter, ifs, 0⟩] scope pos) (dLcD di g t e (own.map (·.2))) :=
  (pdl_lc hc hN hi ok hg ht he hj hs).imp (dLcD_mono hi.mono (hg X.s_0 X.H_0 0 [] []).mono (ht X.s_0 X.H_0 0 [] []).mono (he X.s_0 X.H_0 0 [] []).mono) fun Γ Q h => lcD_lc hi.mono h
theorem pds_setLcOD {i : Nat} {y : Str} {py : Pos} {elt tg iter : Expr} {ifs : List Expr} {scope : Scope} {own : List (Str × Nat)} {pos spos : Pos} {di : DI} {g : DG} {t : DT} {e : DE} {js : List Nat} (hc : X.calm = true) (hN : X.N.Nodup)
    (hsw : swapsWith (.ListComp elt [⟨tg, iter, ifs, 0⟩] scope pos) (some (.Name y py)) spos.line X.env = pure true) (hi : PDI X R tg iter di) (ok : BlkOk X.N X.env.scope scope own)
    (hg : ∀ (s : Shared) (H : Hp) (C : Addr) (cl : List (Str × Addr)) (fp : List Addr), PDG (X.blk s H scope (compEnvC scope cl C X.env) fp) R js tg g) (ht : ∀ (s : Shared) (H : Hp) (C : Addr) (cl : List (Str × Addr)) (fp : List Addr), PDTs (X.blk s H scope (compEnvC scope cl C X.env) fp) R ifs t)
    (he : ∀ (s : Shared) (H : Hp) (C : Addr) (cl : List (Str × Addr)) (fp : List Addr), PDE (X.blk s H scope (compEnvC scope cl C X.env) fp) R elt e) (hj : ∀ j ∈ js, j ∈ own.map (·.2) := by decide) (hy : X.N[i]? = some y := by rfl) (hyl : X.env.scope.names.lookup y = some .local := by rfl) (hs : ∀ x, foldedSetIterable iter X.env x = pure x := by intro _; rfl) :
    PDS X R (.Assign [.Name y py] (.ListComp elt [⟨tg, iter, ifs, 0⟩] scope pos) spos) (dAsgO (dLcD di g t e (own.map (·.2))) i) :=
  (pds_setLcO (i := i) hc hN hsw hi ok hg ht he hj hy hyl hs).imp (dAsgO_mono (dLcD_mono hi.mono (hg X.s_0 X.H_0 0 [] []).mono (ht X.s_0 X.H_0 0 [] []).mono (he X.s_0 X.H_0 0 [] []).mono)) fun E Γ h => lcD_lc hi.mono h
theorem pds_setLcD {i : Nat} {y : Str} {py : Pos} {elt tg iter : Expr} {ifs : List Expr} {scope : Scope} {own : List (Str × Nat)} {pos spos : Pos} {di : DI} {g : DG} {t : DT} {e : DE} {js : List Nat} (hc : X.calm = true) (hN : X.N.Nodup)
    (hsw : swapsWith (.ListComp elt [⟨tg, iter, ifs, 0⟩] scope pos) (some (.Name y py)) spos.line X.env = pure true) (hi : PDI X R tg iter di) (ok : BlkOk X.N X.env.scope scope own)
    (hg : ∀ (s : Shared) (H : Hp) (C : Addr) (cl : List (Str × Addr)) (fp : List Addr), PDG (X.blk s H scope (compEnvC scope cl C X.env) fp) R js tg g) (ht : ∀ (s : Shared) (H : Hp) (C : Addr) (cl : List (Str × Addr)) (fp : List Addr), PDTs (X.blk s H scope (compEnvC scope cl C X.env) fp) R ifs t)
    (he : ∀ (s : Shared) (H : Hp) (C : Addr) (cl : List (Str × Addr)) (fp : List Addr), PDE (X.blk s H scope (compEnvC scope cl C X.env) fp) R elt e) (hj : ∀ j ∈ js, j ∈ own.map (·.2) := by decide) (hy : X.N[i]? = some y := by rfl) (hyl : X.env.scope.names.lookup y = some .local := by rfl) (hs : ∀ x, foldedSetIterable iter X.env x = pure x := by intro _; rfl) :
    PDS X R (.Assign [.Name y py] (.ListComp elt [⟨tg, iter, ifs, 0⟩] scope pos) spos) (dAsg (dFrz (dLcD di g t e (own.map (·.2)))) i) :=
  (pds_setLc (i := i) hc hN hsw hi ok hg ht he hj hy hyl hs).imp (dAsg_mono (dFrz_mono (dLcD_mono hi.mono (hg X.s_0 X.H_0 0 [] []).mono (ht X.s_0 X.H_0 0 [] []).mono (he X.s_0 X.H_0 0 [] []).mono))) fun E Γ h => lcD_lc hi.mono h
end
theorem lcD_fm {g : DG} {t : DT} {e : DE} {vs : List Nat} {Q : List PyData → DEnv → Prop} {Γ : DEnv} (p : PyData → Bool) (fn : PyData → PyData) : ∀ (ds acc : List PyData), acc.length + ds.length ≤ 1000000 →
    (∀ d ∈ ds, ∀ (Y : PyData → DEnv → Prop) (Z : DEnv → Prop), (p d = true → ∀ Γ', backD Γ' Γ vs = Γ → Y (fn d) Γ') → (p d = false → ∀ Γ', backD Γ' Γ vs = Γ → Z Γ') → g d (wipeD Γ vs) fun Γ2 => t Γ2 fun b Γ3 => if b = true then e Γ3 Y else Z Γ3) →
    Q (acc ++ (ds.filter p).map fn) Γ → lcD g t e vs Q ds acc Γ
  | [], acc, _, _, q => by
    have q : Q (acc ++ []) Γ := q
    rw [List.append_nil] at q
    exact q
  | d :: r, acc, l, h, q => by
    have l' : acc.length + (r.length + 1) ≤ 1000000 := l
    refine h d List.mem_cons_self _ _ (fun hp Γ' e => ⟨by omega, ?_⟩) (fun hp Γ' e => ?_)
    · rw [e]
      refine lcD_fm p fn r _ (by rw [List.length_append]; show acc.length + 1 + r.length ≤ _; omega) (fun d' m => h d' (List.mem_cons_of_mem _ m)) ?_
      rw [List.append_assoc]
      rw [List.filter_cons_of_pos hp] at q
      exact q
    · rw [e]
      refine lcD_fm p fn r _ (by omega) (fun d' m => h d' (List.mem_cons_of_mem _ m)) ?_
      rw [List.filter_cons_of_neg (by rw [hp]; exact Bool.false_ne_true)] at q
      exact q
theorem lcD_map {g : DG} {t : DT} {e : DE} {vs : List Nat} {Q : List PyData → DEnv → Prop} {Γ : DEnv} (fn : PyData → PyData) (ds acc : List PyData) (l : acc.length + ds.length ≤ 1000000)
    (h : ∀ d ∈ ds, ∀ (Y : PyData → DEnv → Prop) (Z : DEnv → Prop), (∀ Γ', backD Γ' Γ vs = Γ → Y (fn d) Γ') → g d (wipeD Γ vs) fun Γ2 => t Γ2 fun b Γ3 => if b = true then e Γ3 Y else Z Γ3)
    (q : Q (acc ++ ds.map fn) Γ) : lcD g t e vs Q ds acc Γ := by
  refine lcD_fm (fun _ => true) fn ds acc l (fun d m Y Z y _ => h d m Y Z (y rfl)) ?_
  rw [List.filter_eq_self.mpr fun _ _ => rfl]
  exact q
def okWb (Γ : DEnv) (vs : List Nat) : Bool := vs.all fun v => match Γ[v]? with | some none => true | some (some (Ent.dat _)) => true | _ => false
theorem okW_of {Γ : DEnv} {vs : List Nat} (h : okWb Γ vs = true := by rfl) : okW Γ vs := fun v hv => by
  have q := List.all_eq_true.mp h v hv
  revert q
  cases e : Γ[v]? with
  | none => intro q; cases q
  | some c =>
    intro q
    refine ⟨c, rfl, fun ds => ⟨fun z => ?_, fun z => ?_⟩⟩ <;> (subst z; cases q)
theorem at0 {α : Type} (a : α) (r : List α) : atI (a :: r) 0 = some a := atI_nat (j := 0) rfl
theorem at1 {α : Type} (a b : α) (r : List α) : atI (a :: b :: r) 1 = some b := atI_nat (j := 1) rfl
theorem at2 {α : Type} (a b c : α) (r : List α) : atI (a :: b :: c :: r) 2 = some c := atI_nat (j := 2) rfl
theorem at3 {α : Type} (a b c d : α) (r : List α) : atI (a :: b :: c :: d :: r) 3 = some d := atI_nat (j := 3) rfl
theorem eqvS (a b : Str) : PyData.eqv (.str a) (.str b) = decide (a = b) := by
  show (a == b) = _
  by_cases h : a = b
  · subst h; simp
  · rw [decide_eq_false h]; simp [h]
theorem eqvI (a b : Int) : PyData.eqv (.int a) (.int b) = decide (a = b) := by
  show (a == b) = _
  by_cases h : a = b
  · subst h; simp
  · rw [decide_eq_false h]; simp [h]
theorem shS (a : Str) : SeqAt.shaped (.str a) = PyData.strOk a := by
  show (PyData.strOk a && decide (0 ≤ 64)) = _
  simp
theorem shI (a : Int) : SeqAt.shaped (.int a) = true := by
  show (true && decide (0 ≤ 64)) = _
  simp
theorem ex_some {α : Type} {a : α} {P : α → Prop} : (∃ z, some a = some z ∧ P z) ↔ P a := ⟨fun ⟨z, e, p⟩ => by cases e; exact p, fun p => ⟨a, rfl, p⟩⟩
theorem cut1 (a : PyData) (r : List PyData) : cutD (a :: r) (some 1) none = r := by
  unfold cutD
  have e1 : HT.sIx (a :: r).length 0 (some 1) = 1 := by
    have := HT.sIx_nat (a :: r).length 0 1
    rw [show (some (((1 : Nat) : Int))) = some (1 : Int) from rfl] at this
    rw [this]
    show min 1 (r.length + 1) = 1
    omega
  rw [e1, HT.sIx_none]
  show List.take (r.length + 1 - 1) r = r
  rw [Nat.add_sub_cancel, List.take_length]
theorem lcD_mapA {α : Type} {g : DG} {t : DT} {e : DE} {vs : List Nat} {Q : List PyData → DEnv → Prop} {Γ : DEnv} (f fn : α → PyData) : ∀ (as : List α) (acc : List PyData), acc.length + as.length ≤ 1000000 →
    (∀ a ∈ as, ∀ (Y : PyData → DEnv → Prop) (Z : DEnv → Prop), (∀ Γ', backD Γ' Γ vs = Γ → Y (fn a) Γ') → g (f a) (wipeD Γ vs) fun Γ2 => t Γ2 fun b Γ3 => if b = true then e Γ3 Y else Z Γ3) →
    Q (acc ++ as.map fn) Γ → lcD g t e vs Q (as.map f) acc Γ
  | [], acc, _, _, q => by
    have q : Q (acc ++ []) Γ := q
    rw [List.append_nil] at q
    exact q
  | a :: r, acc, l, h, q => by
    have l' : acc.length + (r.length + 1) ≤ 1000000 := l
    refine h a List.mem_cons_self _ _ (fun Γ' e => ⟨by omega, ?_⟩)
    rw [e]
    refine lcD_mapA f fn r _ (by rw [List.length_append]; show acc.length + 1 + r.length ≤ _; omega) (fun d' m => h d' (List.mem_cons_of_mem _ m)) ?_
    rw [List.append_assoc]
    exact q
section
variable {X : Cx} {R : Root} {K : PySem.W.Frag}
theorem pdn_own (i : Nat) {x : Str} {p pos : Pos} (hN : X.N[i]? = some x := by rfl) (hv : Vis X.env.scope x := by first | exact Or.inl rfl | exact Or.inr (Or.inl rfl) | exact Or.inr (Or.inr rfl)) (hd : (x == ("__debug__" : Str)) = false := by decide)
    (hcd : (x == ("__classdict__" : Str)) = false := by decide) : PDN X R [.Return (some (.Name x p)) pos] (fun W Γ => match Γ[i]? with | some (some (Ent.own ds)) => W ds | _ => False) := by
  refine ⟨⟨_, pss_one (ps_ret (pe_var hN hv hd hcd)), fun E σ H Γ D W r q k => ?_⟩, fun W W' Γ m q => ?_⟩
  · split at q
    · rename_i ds e
      obtain ⟨a, xs, e1, e2, e3, e4, e5⟩ := r.own i ds e
      exact ⟨_, e1, k ds σ Γ a xs H D q r (Same.refl _) e5 e2 e3 e4⟩
    · exact q.elim
  · split at q
    · exact m _ q
    · exact q
theorem pdn_if {c : Expr} {a rest : List Stmt} {pos : Pos} {t : DT} {s u : NDS} (hc : PDT X R c t) (ha : PDN X R a s) (hr : PDN X R rest u) : PDN X R (.If c a [] pos :: rest) (fun W Γ => t Γ fun b Γ1 => if b = true then s W Γ1 else u W Γ1) := by
  obtain ⟨⟨ta, hta, ka⟩, ma⟩ := ha
  obtain ⟨⟨tr, htr, kr⟩, mr⟩ := hr
  refine ⟨⟨_, pss_cons (ps_if hc.pt hta pss_nil) htr, fun E σ H Γ D W r q k => ?_⟩, fun W W' Γ m q => hc.mono Γ _ _ (fun b Γ1 z => ?_) q⟩
  · refine goT r hc.mono q fun b Γ1 H1 D1 h1 r1 s1 => ?_
    cases b with
    | true => exact ka _ σ H1 Γ1 D1 W r1 h1 fun rs σ2 Γ2 p xs H2 D2 w r2 s2 n hp hD dp => k rs σ2 Γ2 p xs H2 D2 w r2 (s1.d.trans s2) n hp hD dp
    | false => exact kr E σ H1 Γ1 D1 W r1 h1 fun rs σ2 Γ2 p xs H2 D2 w r2 s2 n hp hD dp => k rs σ2 Γ2 p xs H2 D2 w r2 (s1.d.trans s2) n hp hD dp
  · cases b with
    | true => exact ma W W' Γ1 m z
    | false => exact mr W W' Γ1 m z
end
theorem forD_inv {g : DG} {b : DS} {E : DEnds} (Pv : Nat → DEnv → Prop) : ∀ (ds : List PyData) (i : Nat) (Γ : DEnv),
    (∀ j d, ds[j]? = some d → ∀ (Γ : DEnv) (N : DEnv → Prop), Pv (i + j) Γ → (∀ Γ', Pv (i + j + 1) Γ' → N Γ') → g d Γ fun Γ2 => b { E with nx := N, ct := N, bk := E.nx } Γ2) →
    Pv i Γ → (∀ Γ', Pv (i + ds.length) Γ' → E.nx Γ') → forD g b E ds Γ
  | [], i, Γ, _, h, q => q Γ h
  | d :: r, i, Γ, st, h, q => st 0 d rfl Γ _ h fun Γ' h' => forD_inv Pv r (i + 1) Γ' (fun j d' e Γ2 N p k => st (j + 1) d' e Γ2 N (by rw [show i + (j + 1) = i + 1 + j by omega]; exact p) fun Γ3 p3 => k Γ3 (by rw [show i + 1 + j + 1 = i + (j + 1) + 1 by omega]; exact p3)) h' fun Γ2 p => q Γ2 (by
    rw [List.length_cons, show i + (r.length + 1) = i + 1 + r.length by omega]
    exact p)
theorem lcD_inv {g : DG} {t : DT} {e : DE} {vs : List Nat} {Q : List PyData → DEnv → Prop} (Pv : Nat → List PyData → DEnv → Prop) : ∀ (ds : List PyData) (i : Nat) (acc : List PyData) (Γ : DEnv),
    (∀ j d (acc : List PyData) (Γ : DEnv), ds[j]? = some d → Pv (i + j) acc Γ → ∀ (Y : PyData → DEnv → Prop) (Z : DEnv → Prop), (∀ y Γ', Pv (i + j + 1) (acc ++ [y]) (backD Γ' Γ vs) → Y y Γ') → g d (wipeD Γ vs) fun Γ2 => t Γ2 fun b Γ3 => if b = true then e Γ3 Y else Z Γ3) →
    (∀ j (acc : List PyData) (Γ : DEnv), Pv (i + j) acc Γ → j < ds.length → acc.length < 1000000) → Pv i acc Γ → (∀ (acc : List PyData) (Γ : DEnv), Pv (i + ds.length) acc Γ → Q acc Γ) → lcD g t e vs Q ds acc Γ
  | [], i, acc, Γ, _, _, h, q => q acc Γ h
  | d :: r, i, acc, Γ, st, le, h, q => st 0 d acc Γ rfl h _ _ fun y Γ' h' => ⟨le 0 acc Γ h (by simp), lcD_inv Pv r (i + 1) _ _ (fun j d' a2 Γ2 e2 p => by
      rw [show i + 1 + j = i + (j + 1) by omega] at p ⊢
      exact st (j + 1) d' a2 Γ2 e2 p) (fun j a2 Γ2 p hj => le (j + 1) a2 Γ2 (by rw [show i + (j + 1) = i + 1 + j by omega]; exact p) (by rw [List.length_cons]; omega)) h' fun a2 Γ2 p => q a2 Γ2 (by
      rw [List.length_cons, show i + (r.length + 1) = i + 1 + r.length by omega]
      exact p)⟩
end DL

set_option Elab.async false
set_option linter.all false
set_option maxRecDepth 100000

namespace DL
open PySem PySem.Spec PyProof.Rows L2
mutual
theorem dp_plain {K : PySem.W.Frag} {H : Hp} : ∀ {d : PyData} {v : V}, Dp K H v d → d.hasDict = false
  | .none, _, _ => rfl
  | .bool _, _, _ => rfl
  | .int _, _, _ => rfl
  | .str _, _, _ => rfl
  | .list ds, _, h => by
    cases h with
    | lst q a => exact dpAll_plain a
  | .tuple ds, _, h => by
    cases h with
    | tup q a => exact dpAll_plain a
  | .dict _, _, h => by cases h
theorem dpAll_plain {K : PySem.W.Frag} {H : Hp} : ∀ {ds : List PyData} {vs : List V}, DpAll K H vs ds → PyData.hasDictAll ds = false
  | [], _, _ => rfl
  | _ :: _, _, h => by
    cases h with
    | cons a b =>
      show (PyData.hasDict _ || PyData.hasDictAll _) = false
      rw [dp_plain a, dpAll_plain b]
      rfl
end
def cRepr : List PyData → (PyData → Prop) → Prop := fun ds Q => ∃ d, ds = [d] ∧ d.showable = true ∧ d.depth ≤ 60 ∧ d.shown.length ≤ 16777216 ∧ Q (.str d.shown)
theorem cRepr_mono : MonoC cRepr := fun ds W W' m ⟨d, e, a, b, c, h⟩ => ⟨d, e, a, b, c, m _ h⟩
theorem l16 {n : Nat} (h : n ≤ 16777216) : n ≤ sizeLine := by
  have e : sizeLine = 16777216 := by decide
  rw [e]; exact h
section
variable {X : Cx} {R : Root} {K : PySem.W.Frag}
theorem call_reprD (hg : X.A.guards = some []) (hu : X.A.units + 64 < cLine) : CallR X (.builtin "repr") (fun xs H Q => ∃ x d D, xs = [x] ∧ Sub D H ∧ Dp X.K D x d ∧ d.showable = true ∧ d.depth ≤ 60 ∧ d.shown.length ≤ 16777216 ∧ Q (.str d.shown) H) := by
  intro pins s σ H xs us Q I rv hh
  obtain ⟨x, d, D, rfl, u0, dp, sh, dep, len, q⟩ := hh
  obtain ⟨v, rfl, rx⟩ := rv.one
  have dpH : Dp X.K H x d := dp_mono u0 dp
  have rd := L2.Dp.reads I d x v (dp_l2 dpH) rx
  have out : ∀ h' u tk, (∀ b o, s.heap.get? b = some o → h'.get? b = some o) → EP X pins σ Q (.str d.shown u) { s with heap := h', toks := tk } := fun h' u tk hk =>
    ⟨.str d.shown, H, I.kept (t' := tk) hk, ⟨u, rfl⟩, q⟩
  have line := l16 len
  cases dpH with
  | non =>
    obtain rfl : v = .none := rx
    exact PySem.P.repr_of_none (out s.heap _ _ fun _ _ e => e)
  | bl b =>
    obtain rfl : v = .bool b := rx
    exact PySem.P.repr_of_bool (out s.heap _ _ fun _ _ e => e)
  | int i =>
    obtain ⟨t, rfl⟩ := rx
    exact PySem.P.repr_of_int (of_decide_eq_true sh) (out s.heap _ _ fun _ _ e => e)
  | str z =>
    obtain ⟨t, rfl⟩ := rx
    exact PySem.P.repr_of_str (out s.heap _ _ fun _ _ e => e) line
  | lst q1 a1 =>
    obtain ⟨as, rd⟩ := rd
    cases rx
    exact repr_of_reads' rd sh (PyData.noDict_hsm (dp_plain dp)) hg (by omega) (fun _ _ e => e) (fun h' u tk hk => out h' u tk hk) line
  | tup q1 a1 =>
    obtain ⟨as, rd⟩ := rd
    cases rx
    exact repr_of_reads' rd sh (PyData.noDict_hsm (dp_plain dp)) hg (by omega) (fun _ _ e => e) (fun h' u tk hk => out h' u tk hk) line
theorem cRepr_ok : CallD K (fun xs H Q => ∃ x d D, xs = [x] ∧ Sub D H ∧ Dp K D x d ∧ d.showable = true ∧ d.depth ≤ 60 ∧ d.shown.length ≤ 16777216 ∧ Q (.str d.shown) H) cRepr := fun D H xs ds Q u hd ⟨d, e, a, b, c, h⟩ => by
  subst e
  cases hd with
  | cons x y =>
    cases y
    exact ⟨_, d, D, rfl, u, x, a, b, c, h _ _ _ (Grow.refl u) (.str _)⟩
theorem pde_repr {e : Expr} {p pos : Pos} {a : DE} (hgu : X.A.guards = some []) (hu : X.A.units + 64 < cLine) (ha : PDE X R e a) (hm : X.mg "repr" = none) (hg : Gl X "repr" := by rfl) (he : starEach [e] X.env = (false, eval e X.env) :: starEach [] X.env := by rfl) (hpl : (backTo pos (starEach [] X.env)).any (·.1) = false := by rfl) :
    PDE X R (.Call (.Name "repr" p) [e] [] pos) (dCall cRepr (dCons a dNil)) := DL.pde_callB (call_reprD hgu hu) cRepr_ok cRepr_mono hg hm (by decide +kernel) (pda_cons ha pda_nil he) (by decide) (by decide) he hpl
end
end DL

set_option Elab.async false
set_option linter.all false
set_option maxRecDepth 100000

namespace DL
open PySem PySem.Spec PyProof.Rows L2
section
variable {P : Program} {w : World} {K : PySem.W.Frag} {mg : Str → Option Value}
structure LawBody (P : Program) (w : World) (K : PySem.W.Frag) (mg : Str → Option Value) (st : Stmt) (x p : Str) (N : List Str) (k : Nat) (f : Addr) : Prop where
  scope : FnScope N [p] (defScope st)
  body : ∀ (base : Heap) (cdv : Value) (s : Shared) (G : Hp) (R : Root), Room k (callerA.deeper (envOfC x (defScope st) s.heap.objs.size f cdv)) →
    ∃ b : DS, PDSs (cxOf CX0 P w K mg base N x (defScope st) f cdv callerA [] s G E0).nox R (defBody st) b ∧ ∀ (ns : List Int), ns.length ≤ 63 → b { nx := fun _ => False, rt := fun d _ => d = .bool true } (startD N [.list (ns.map .int)])
theorem law_at {st : Stmt} {x p : Str} {N : List Str} {k : Nat} {f a : Addr} {fd : FuncData} {base : Heap} {s : Shared} {G : Hp} {ns : List Int} (F : Fun K x x st f fd) (L : LawBody P w K mg st x p N k f) (few : ns.length ≤ 63) (room : Room (k + 1) callerA) (en : Env0 P w K mg base callerA [] s G)
    (bind : ∀ (z : Shared) (u : Value), BindsTo z fd ⟨[u], []⟩ [(p, u)]) (script : SqX K G a (ns.map V.int)) : codeAny (model P w) callerA (.call (.ref f) ⟨[.ref a], []⟩) (CR CX0 [] P w G s (fun v _ => v = .bl true) E0) s := by
  obtain ⟨o1, o2, o3, o4, o5, o6, cdv, o7, o8, efd, there, code⟩ := F.ex
  subst efd
  have S := L.scope
  have here : K.In s.heap := en.mod.kin.keeps fun c u q => (en.bs c u q).1
  have kinds : ∀ y ∈ [p].zip [Value.ref a], (defScope st).names.lookup y.1 = some .local ∨ ((defScope st).names.lookup y.1 = some .cell ∧ ((cellsFrom (s.heap.objs.size + 1) (defScope st).names []).lookup y.1).isSome = true) := by
    rintro ⟨m, u⟩ hy
    exact (S.par m (List.of_mem_zip hy).1).imp id fun q => ⟨q, PySem.W.cellsFrom_some _ _ _ (.inl q)⟩
  refine codeAny_call_function room.depth (here _ _ there) rfl S.co S.gen rfl (PySem.W.codeRec_of here code) (bind s (.ref a) _ _ _ _ (wpAny_newFunctionEnv_cells S.kind kinds fun env same s1 inn => ?_))
  subst same
  refine ⟨PySem.Heap.NoLimit.keeps (en.mod.nolimit.keeps fun c u q => (en.bs c u q).1) inn.toInCall.keep, codeAny_func ?_⟩
  obtain ⟨b, hb, holds⟩ := L.body base cdv s G ⟨G, G, none⟩ (room.deeper _)
  have inv0 : L2.Inv (cxOf CX0 P w K mg base N x (defScope st) f cdv callerA [] s G E0) [] (start N [V.ref a]) G s1 := inv_start S room.hd en rfl (.cons rfl .nil) inn
  have dp : DpAll K G [V.ref a] [.list (ns.map .int)] := .cons (.lst script (dpAll_ints ns)) .nil
  have ends : liftS K ⟨G, G, none⟩ b { nx := fun _ _ => False, rt := fun v _ => v = .bl true } (start N [V.ref a]) G := by
    refine ⟨startD N [.list (ns.map .int)], G, rep_start (fun _ _ e => e) dp, hb.mono { nx := fun _ => False, rt := fun d _ => d = .bool true } _ _ ⟨fun _ z => False.elim z, fun d Γ z v σ' H' D' _ _ q => ?_, fun _ z => False.elim z, fun _ z => False.elim z⟩ (holds ns few)⟩
    have z : d = .bool true := z
    subst z
    cases q
    rfl
  refine wpAny_mono ((hb.pss.nox).run [] s1 _ G _ inv0 ends) (fun fl s2 got => ?_) fun _ _ e => e
  cases fl with
  | ret u =>
    obtain ⟨v, σ2, H2, J, rv, q⟩ := got
    exact ⟨v, H2, J.os, J.bare, J.base, J.hok, rv, q⟩
  | next =>
    obtain ⟨_, _, _, q⟩ := got
    exact q.elim
  | brk =>
    obtain ⟨_, _, _, q⟩ := got
    exact q.elim
  | cont =>
    obtain ⟨_, _, _, q⟩ := got
    exact q.elim
abbrev scrO (vs : List Value) : Obj := { cls := .type "list", data := .seq vs.toArray }
structure Entry (K : PySem.W.Frag) (a : Addr) (vs : List Value) (ns : List Int) (G : Hp) : Prop where
  only : ∀ b u, G b = some u → b = a ∧ K.lookup a = none ∧ u = .frz (scrO vs) (.lst (ns.map V.int))
  seq : SqX K G a (ns.map V.int)
theorem entry_of {h : Heap} {a : Addr} {vs : List Value} {ns : List Int} (inK : K.In h) (ha : h.get? a = some (scrO vs)) (hi : IntsAre vs ns) (few : ns.length ≤ 63) : ∃ G, Entry K a vs ns G := by
  have vals := vals_ints hi
  cases q : K.lookup a with
  | some o =>
    have same := inK a o q
    rw [ha] at same
    cases same
    exact ⟨fun _ => none, ⟨fun b u z => (nomatch z), .inr ⟨vs, _, q, by rw [List.length_map]; exact Nat.le_trans few (by decide), vals⟩⟩⟩
  | none =>
    refine ⟨fun b => if b = a then some (.frz (scrO vs) (.lst (ns.map V.int))) else none, ⟨fun b u z => ?_, .inl (.inr ⟨scrO vs, if_pos rfl⟩)⟩⟩
    split at z
    · rename_i e
      exact ⟨e, q, (Option.some.inj z).symm⟩
    · cases z
theorem law_go {mb : Str → Option Value} {fa a : Addr} {s : Shared} {vs : List Value} {ns : List Int} (inK : K.In s.heap) (names : s.heap.Ns mainGlobals mg) (blts : s.heap.Ns builtinsNs mb) (boot : ∀ x : Str, x ≠ "__name__" → mb x = bootBuiltins x) (free : s.heap.NoLimit) (nogen : s.gens = #[])
    (ha : s.heap.get? a = some (scrO vs)) (hi : IntsAre vs ns) (few : ns.length ≤ 63)
    (run : ∀ (base : Heap) (G : Hp), SqX K G a (ns.map V.int) → Env0 P w K mg base callerA [] s G → codeAny (model P w) callerA (.call (.ref fa) ⟨[.ref a], []⟩) (CR CX0 [] P w G s (fun v _ => v = .bl true) E0) s) :
    codeAny (model P w) callerA (.call (.ref fa) ⟨[.ref a], []⟩) (fun r t => r = .ok (.ret (.bool true)) ∧ OldK s.heap t.heap ∧ t.os = s.os ∧ AllBare t.gens) s := by
  obtain ⟨G, en⟩ := entry_of inK ha hi few
  have clear : ∀ {b : Addr} {o : Obj}, s.heap.get? b = some o → (b = a → False) → (hidT s.heap G).get? b = some o := fun {b o} e n => hidT_get e (by
    cases q : G b with
    | none => rfl
    | some u => exact (n (en.only b u q).1).elim)
  have nsOk : ∀ {b : Addr} {m : Str → Option Value}, s.heap.Ns b m → (hidT s.heap G).Ns b m := fun {b m} ⟨o, es, ep, e, d, r⟩ => ⟨o, es, ep, clear e (fun z => by
    subst z
    rw [ha] at e
    cases e
    cases (d : Data.seq vs.toArray _ = Data.dict es ep)), d, r⟩
  have baseK : K.In (hidT s.heap G) := fun b o q => hidT_get (inK b o q) (by
    cases z : G b with
    | none => rfl
    | some u =>
      obtain ⟨e1, e2, _⟩ := en.only b u z
      subst e1
      rw [e2] at q
      cases q)
  have hok : HOk P w G s.heap := fun b u z => by
    obtain ⟨e1, _, e3⟩ := en.only b u z
    subst e1 e3
    exact ⟨ha, by rw [List.length_map]; exact Nat.le_trans few (by decide), vs, _, vals_ints hi, ha⟩
  have modOk : Mod K mg (hidT s.heap G) := ⟨baseK, nsOk names, ⟨mb, nsOk blts, boot⟩, by
    obtain ⟨m, y1, y2⟩ := free
    exact ⟨m, nsOk y1, y2⟩⟩
  have env : Env0 P w K mg (hidT s.heap G) callerA [] s G := ⟨rfl, modOk, fun _ _ e => of_hidT e, Nat.le_of_eq (hidT_size _ _), trivial, fun b hb => (nomatch hb), hok, .of_eq nogen⟩
  refine codeAny_mono (run _ G en.seq env) fun r t got => ?_
  rcases r with e | fl
  · exact False.elim got
  · cases fl with
    | ret u =>
      obtain ⟨v, G', os, bare, un, hok', rv, isT⟩ := got
      have isT : v = .bl true := isT
      subst isT
      obtain rfl : u = Value.bool true := rv
      refine ⟨rfl, OldK.of_keep fun b o e => ?_, os, bare⟩ -- k09
      cases q : G b with
      | none => exact un.keep b o e q (fun z => nomatch z) (by simp)
      | some w' =>
        obtain ⟨e1, _, e3⟩ := en.only b w' q
        subst e1 e3
        have now := (hok' b _ (un.frzs b _ _ q)).1
        rw [ha] at e
        cases e
        exact now
    | next => exact False.elim got
    | brk => exact False.elim got
    | cont => exact False.elim got
theorem walkG {l : PySem.W.OpenLaw} {q : Program} {loose : List Str} {XP : (Str → Option Value) → Heap → Prop} {YP : World → Heap → Prop} {d : DefRec} {K : Params → PySem.W.Frag} {st : Stmt} {x p : Str} {N : List Str} {k : Nat}
    (most : l.most = some 63) (hdf : d.params.defaults = []) (room : Room (k + 1) callerA) (hY : ∀ (w : World) (h : Heap), YP w h → (K w.params).In h)
    (F : ∀ (w : World) (mg : Str → Option Value) (fa : Addr) (h : Heap), (K w.params).In h → h.Ns mainGlobals mg → mg d.name = some (.ref fa) →
      ∃ fd : FuncData, (∀ (s : Shared) (u : Value), BindsTo s fd ⟨[u], []⟩ [(p, u)]) ∧ Fun (K w.params) x x st fa fd ∧ LawBody l.prog w (K w.params) mg st x p N k fa) :
    PySem.W.WalkO q loose XP YP l.row.toRowW d [] (fun f vs => PySem.call f vs) := by -- k09
  refine Att.attach_call most hdf fun w s₀ s₁ mg mb fa o pm cd doc a vs ns G Y ho hd hcd named isObj isInts few gens => ?_
  have inK := hY w _ Y
  obtain ⟨fd, bind, fn, body⟩ := F w mg fa _ inK G.T.g named
  exact law_go inK G.T.g G.T.b G.T.builtins G.T.nolimit gens isObj isInts few fun base H script env => law_at fn body few room env bind script
end
end DL

set_option Elab.async false
set_option linter.all false
set_option maxRecDepth 100000

namespace DL
open PySem PySem.Spec PyProof.Rows L2

abbrev titO (t : Addr) : Obj := { cls := .type "tuple_iterator", data := .fields #[.ref t, .int 0 0] }
abbrev enuO (it : Addr) : Obj := { cls := .type "enumerate", data := .fields #[.none, .bool false, .ref it, rawInt 0, .none, .none] }
set_option maxHeartbeats 1000000 in
theorem meets_enumT (t : Addr) (its : Array Value) : Meets (Builtin.«enumerate.__new__» ⟨[.type "enumerate", .ref t], []⟩) (fun _ R s => s.heap.IsTuple t its ∧ R (.ok (.ret (.ref (s.heap.push (titO t)).objs.size))) { s with heap := (s.heap.push (titO t)).push (enuO s.heap.objs.size) }) :=
  .of_wp fun prog w A R s ⟨isT, fin⟩ => by
    obtain ⟨hp, gg, dd, tt, oo⟩ := s
    have hsub := sub_enumerate
    have q1 : ∀ {A' : Around} {E : Value → Shared → Prop} {Q : Value → Shared → Prop}, Q (.ref hp.objs.size) ⟨hp.push (titO t), gg, dd, tt, oo⟩ → wpAny (model prog w) A' (pyIter (.ref t)) Q E ⟨hp, gg, dd, tt, oo⟩ :=
      fun z => (begins_tuple t its).iter prog w _ _ ⟨hp, gg, dd, tt, oo⟩ _ isT z
    wp_walk using q1
    refine wpAny_stack_any fun _ => wpAny_pure ?_
    split
    · rename_i c _ _ _ _ _
      cases (c == Value.type "enumerate") <;> (wp_walk using q1; exact ⟨_, rfl, fin⟩)
    · wp_walk using q1
      exact ⟨_, rfl, fin⟩
theorem call_enumT {prog : Program} {w : World} {A : Around} {E : Value → Shared → Prop} {s : Shared} {t : Addr} {its : Array Value} {Q : Value → Shared → Prop} (isT : s.heap.IsTuple t its)
    (k : ∀ h', IsEnum h' (s.heap.objs.size + 1) s.heap.objs.size 0 .none → h'.IsTupleIter s.heap.objs.size t 0 → (∀ b o, s.heap.get? b = some o → h'.get? b = some o) → Q (.ref (s.heap.objs.size + 1)) { s with heap := h' }) :
    wpAny (model prog w) A (call (.type "enumerate") [.ref t]) Q E s := by
  have sz : (s.heap.push (titO t)).objs.size = s.heap.objs.size + 1 := Heap.size_push ..
  have top : IsEnum ((s.heap.push (titO t)).push (enuO s.heap.objs.size)) (s.heap.objs.size + 1) s.heap.objs.size 0 .none := by
    have z := Heap.get?_push_size (s.heap.push (titO t)) (o := enuO s.heap.objs.size) rfl
    rw [sz] at z
    exact z
  refine callType_new F.called_enumerate (by decide) (F.typeCall_enumerate_1 _) (F.newCall_enumerate_1 _) (fun obj => F.args_object_init_2 obj _) F.entry_enumerate_new (meets_enumT t its) ⟨isT, ?_⟩
  show _ ∧ _
  rw [sz]
  exact ⟨⟨_, top, rfl⟩, k _ top ⟨_, Heap.get?_push_of_some _ (Heap.get?_push_size _ rfl), rfl, rfl⟩ fun b o z => Heap.get?_push_of_some _ (Heap.get?_push_of_some _ z)⟩
def IteT (K : PySem.W.Frag) (a : Addr) : It :=
  ⟨fun i H => ∃ (xs : List V) (x : V), SqT K H a xs ∧ xs[i]? = some x, fun i H v H' => ∃ T x, v = .ref T ∧ H T = none ∧ H' = upd H T (.tup [.int (i : Nat), x]) ∧ ∀ xs, SqT K H a xs → xs[i]? = some x, fun i H => ∃ xs : List V, SqT K H a xs ∧ xs.length ≤ i⟩
theorem turn_enumT {P : Program} {w : World} {K : PySem.W.Frag} {elts : List Expr} {kk : Nat} {tpos : Pos} (a e it : Addr) :
    Turn P w K (.Tuple elts kk tpos) (IteT K a) [e, it] e (fun i h => (∃ old, IsEnum h e it ((i : Nat) : Int) old) ∧ h.IsTupleIter it a i ∧ e ≠ it) where
  mem := List.mem_cons_self
  obj := fun i h ⟨⟨old, he⟩, ⟨o, ho, _, hd⟩, _⟩ b hb => by
    rcases List.mem_cons.mp hb with z | z -- k09
    · exact ⟨_, by rw [z]; exact he, fun v q => by cases q⟩
    · exact ⟨o, by rw [List.mem_singleton.mp z]; exact ho, fun v q => by rw [hd] at q; cases q⟩
  keep := fun i h h' ⟨⟨old, he⟩, hi, ne⟩ k => ⟨⟨old, k e (by simp) _ he⟩, hi.at fun o q => k it (by simp) o q, ne⟩
  item := by
    rintro X rfl rfl rfl calm i pins s σ H E I hf ⟨⟨old, he⟩, hit, ne⟩ ⟨xs, x, isS, there⟩
    obtain ⟨its, vals, isT, _⟩ := I.tuple isS
    obtain ⟨u, hu, ru⟩ := vals.get there
    have apart : a ≠ it ∧ e ≠ a := by
      obtain ⟨o1, g1, c1, _⟩ := isT
      obtain ⟨o2, g2, c2, _⟩ := hit
      refine ⟨fun z => ?_, fun z => ?_⟩ -- k09
      · subst z
        rw [g1] at g2
        cases g2
        rw [c1] at c2
        injection c2 with z
        exact absurd z (by decide)
      · subst z
        have g3 : s.heap.get? e = some _ := he
        rw [g1] at g3
        cases g3
        injection c1 with z
        exact absurd z (by decide)
    have lt_e : e < s.heap.objs.size := Heap.lt_size he
    have lt_it : it < s.heap.objs.size := Heap.lt_size hit.choose_spec.1
    have lt : i < its.toArray.size := by
      have := (List.getElem?_eq_some_iff.mp hu).1
      simpa using this
    refine wpAny_pyNext_enum_itemC (Draws.tuple (A := X.A.in1) (I.ok.hd calm) it a apart.1 its.toArray) he ⟨hit, isT⟩ lt ne (by simp [ne, apart.2]) fun y h' tk py out st cell _ kept => ?_
    obtain rfl : y = u := by
      have z : its.toArray[i]? = some y := py
      rw [List.getElem?_toArray, hu] at z
      exact (Option.some.inj z).symm
    refine ⟨_, rfl, wpAny_letOwnedTupleGo_enum (s := { s with heap := h', toks := tk + 1 }) out fun h2 he2 but => ?_⟩
    have cell2 : h2.get? s.heap.objs.size = some { cls := .type "tuple", data := .seq #[.int ((i : Nat) : Int) tk, y] } := (but.2 _ (Nat.ne_of_gt lt_e)).trans cell
    have fresh : ObjOk X.prog X.w (upd H s.heap.objs.size (.tup [.int (i : Nat), x])) h2 s.heap.objs.size (.tup [.int (i : Nat), x]) := ⟨by show 2 ≤ sizeLine; decide, [.int ((i : Nat) : Int) tk, y], .cons ⟨_, rfl⟩ (.cons ru .nil), ⟨_, cell2, rfl, _, rfl⟩⟩
    have I2 : L2.Inv X pins σ (upd H s.heap.objs.size (.tup [.int (i : Nat), x])) { s with heap := h2, toks := tk + 1 } :=
      I.turnedNew (ch := [e, it]) (fun b ob nb q => by
        have n1 : b ≠ e := fun z => nb (by simp [z])
        have n2 : b ≠ it := fun z => nb (by simp [z])
        exact (but.2 b n1).trans (kept b ob n1 n2 q)) hf (Nat.le_refl _) fresh
    refine ⟨.ref s.heap.objs.size, _, I2, rfl, ⟨_, x, rfl, I.hok.fresh (Nat.le_refl _), rfl, fun l hl => by rw [I.tuple_inj hl isS]; exact there⟩, ⟨⟨y, ?_⟩, st.1.at fun o q => (but.2 it (Ne.symm ne)).trans q, ne⟩, fun b hb => ?_⟩
    · rw [show ((i + 1 : Nat) : Int) = ((i : Nat) : Int) + 1 by omega]
      exact he2
    · have small : b < s.heap.objs.size := by
        rcases List.mem_cons.mp hb with z | z -- k09
        · rw [z]; exact lt_e
        · rw [List.mem_singleton.mp z]; exact lt_it
      rw [upd_ne (Nat.ne_of_lt small)]
      exact (hf b hb).1
  done := by
    rintro X rfl rfl rfl calm i pins s σ H E I hf ⟨⟨old, he⟩, hit, ne⟩ ⟨xs, isS, le⟩
    obtain ⟨its, vals, isT, _⟩ := I.tuple isS
    obtain ⟨f0, f1, f2, f3, f4, f5⟩ := hf it (by simp) -- k09
    have D0 : Draws X.prog X.w X.A.in1 it [it, a] 0 (fun _ _ => True) (fun j h => h.IsTupleIter it a (i + j) ∧ h.IsTuple a its.toArray) :=
      { live := fun _ _ st => ⟨_, st.1.choose_spec.1⟩
        frame := fun _ _ _ st k => ⟨st.1.at fun o q => k it (by simp) o q, st.2.at fun o q => k a (by simp) o q⟩
        item := fun j _ _ _ lt => absurd lt (Nat.not_lt_zero j)
        done := fun s2 Q2 E2 st k => wpAny_nextOf_tuple_end (I.ok.hd calm) st.1 st.2 (by
          have := vals.length
          simp
          omega) k }
    exact wpAny_pyNext_enum_endD D0 he ⟨hit, isT⟩ fun h' eb => ⟨rfl, I.turned (t' := s.toks) (fun b o nb q => eb b o nb q) f0 f1 f3 f4 f5⟩
  self := fun A i s Q E ⟨⟨_, he⟩, _⟩ h => wpAny_pyIter_enum he h
section
variable {X : Cx} {R : Root} {K : PySem.W.Frag}
def bNeS : PyData → PyData → (PyData → Prop) → Prop := fun d e Q => match d, e with | .str a, .str b => Q (.bool (!decide (a = b))) | _, _ => False
def bEqS : PyData → PyData → (PyData → Prop) → Prop := fun d e Q => match d, e with | .str a, .str b => Q (.bool (decide (a = b))) | _, _ => False
theorem bNeS_mono : MonoB bNeS := fun d e W W' m h => by
  unfold bNeS at h ⊢
  split at h
  · exact m _ h
  · exact h
theorem bEqS_mono : MonoB bEqS := fun d e W W' m h => by
  unfold bEqS at h ⊢
  split at h
  · exact m _ h
  · exact h
theorem dec_strV {a b : Str} : decide (V.str a = V.str b) = decide (a = b) := by
  rw [Bool.eq_iff_iff]
  simp
theorem bNeS_ok : OpD K rNe bNeS := fun D H x y d e Q u hx hy h => by
  unfold bNeS at h
  split at h
  · cases hx
    cases hy
    refine ⟨rfl, ?_⟩
    rw [dec_strV]
    exact bool_out u h
  · exact h.elim
theorem bEqS_ok : OpD K rEq bEqS := fun D H x y d e Q u hx hy h => by
  unfold bEqS at h
  split at h
  · cases hx
    cases hy
    refine ⟨rfl, ?_⟩
    rw [dec_strV]
    exact bool_out u h
  · exact h.elim
theorem pdt_neS {a b : Expr} {pos : Pos} {da db : DE} (ha : PDE X R a da) (hb : PDE X R b db) : PDT X R (.Compare a [.NotEq] [b] pos) (dTest (dOp bNeS da db)) := pdt_cmp op_ne bNeS_ok bNeS_mono ha hb (nomark _)
theorem pde_eqS {a b : Expr} {pos : Pos} {da db : DE} (ha : PDE X R a da) (hb : PDE X R b db) : PDE X R (.Compare a [.Eq] [b] pos) (dOp bEqS da db) := pd_cmp op_eq bEqS_ok bEqS_mono ha hb (nomark _)
theorem itd_enumT {D : Hp} {a : Addr} {xs : List V} {ds : List PyData} (h : SqT K D a xs) (hd : DpAll K D xs ds) : ItD K (IteT K a) D (enums ds) := by
  have el := dpAll_len hd
  refine ⟨fun i H D1 s u hi => ?_, fun H D1 s u => ⟨xs, sqT_mono (same_sub s u) h, by rw [enums_len]; omega⟩, fun i H D1 x H' s u hi y => ?_⟩
  · rw [enums_len] at hi
    exact ⟨xs, xs[i], sqT_mono (same_sub s u) h, List.getElem?_eq_getElem (by omega)⟩
  · rw [enums_len] at hi
    obtain ⟨T, z, e1, e2, e3, y⟩ := y
    subst e1 e3
    obtain ⟨d, f1, f2⟩ := dpAll_getV hd (y xs (sqT_mono (same_sub s u) h))
    obtain ⟨g, q⟩ := upd_pair (K := K) u e2 (.int (i : Nat)) (dp_mono s f2)
    refine ⟨_, _, g, ?_, q⟩
    unfold enums
    rw [List.getElem?_map, List.getElem?_range hi]
    show some (PyData.tuple [PyData.int (i : Nat), ds.getD i PyData.none]) = _
    rw [List.getD_eq_getElem?_getD, f1]
    rfl
def dEnumT (a : DA) : DI := fun Γ Q => a Γ fun ds Γ1 => match ds with | [.tuple es] => Q (enums es) Γ1 | _ => False
theorem pdi_enumT {e : Expr} {p pos tpos : Pos} {elts : List Expr} {kk : Nat} {a : DA} (hg : Gl X "enumerate") (hm : X.mg "enumerate" = none) (ha : PDA X R [e] a) (hs : starEach [e] X.env = [(false, eval e X.env)] := by rfl) :
    PDI X R (.Tuple elts kk tpos) (.Call (.Name "enumerate" p) [e] [] pos) (dEnumT a) := by
  refine ⟨⟨fun pins s σ H RR I q => ?_⟩, fun Γ W W' m h => ha.mono Γ _ _ (fun ds Γ1 q => by
    split at q
    · exact m _ _ q
    · exact q) h⟩
  obtain ⟨Γ, D, r0, q⟩ := q
  have q' : liftA X.K R a σ H fun vs H1 => ∃ (t : Addr) (xs : List V) (es : List PyData) (Γ1 : DEnv) (D1 : Hp), vs = [.ref t] ∧ SqT X.K D1 t xs ∧ DpAll X.K D1 xs es ∧ Rep X.K R σ H1 Γ1 D1 ∧ (∀ J H' D', Rep X.K R σ H' Γ1 D' → Step σ Γ D H Γ1 D' H' → ItD X.K J D' (enums es) → RR J H') ∧ Step σ Γ D H Γ1 D1 H1 :=
    goA r0 ha.mono q fun ds Γ1 vs H1 D1 h1 r1 st q1 => by
      split at h1
      · cases q1 with
        | cons x y =>
          cases y
          cases x with
          | tup sq al => exact ⟨_, _, _, Γ1, D1, rfl, sq, al, r1, h1, st⟩
      · exact h1.elim
  refine Call_ (ld_blt I hg hm boot_enumerate (PyProof.Rows.callWith_type1 (thn (ha.pa.run pos pins s σ H _ I q') fun us s1 ⟨vs, H1, I1, rv, t, xs, es, Γ1, D1, ev, sq, al, r1, fin, st⟩ => ?_) hs rfl))
  subst ev
  obtain ⟨u, rfl, ru⟩ := rv.one
  cases ru
  have sqH : SqT X.K H1 t xs := sqT_mono (fun b o e => r1.sub b o e) sq
  obtain ⟨its, _, isT, _⟩ := I1.tuple sqH
  refine call_enumT isT fun h' en hit keep => wpAny_pyIter_enum en ?_
  have I2 : L2.Inv X pins σ H1 { s1 with heap := h' } := I1.kept (t' := s1.toks) keep
  refine ⟨s1.heap.objs.size + 1, [s1.heap.objs.size + 1, s1.heap.objs.size], _, IteT X.K t, H1, rfl, I2, turn_enumT t (s1.heap.objs.size + 1) s1.heap.objs.size, ⟨⟨.none, en⟩, hit, Nat.succ_ne_self _⟩, fun b hb => ?_, fin _ H1 D1 r1 st (itd_enumT sq al)⟩
  have le : s1.heap.objs.size ≤ b := by
    rcases List.mem_cons.mp hb with z | z -- k09
    · rw [z]; exact Nat.le_add_right _ _ -- k09
    · rw [List.mem_singleton.mp z]; exact Nat.le_refl _
  exact I1.fpOk le (I1.hok.fresh le)
theorem vals_of : ∀ (xs : List V) (us : List Value), xs.length = us.length → (∀ (i : Nat) (x : V) (u : Value), xs[i]? = some x → us[i]? = some u → RelV x u) → Vals xs us
  | [], [], _, _ => .nil
  | [], _ :: _, e, _ => by simp at e
  | _ :: _, [], e, _ => by simp at e
  | x :: xs, u :: us, e, h => .cons (h 0 x u rfl rfl) (vals_of xs us (by simpa using e) fun i y w e1 e2 => h (i + 1) y w (by simpa using e1) (by simpa using e2))
def dTupleS (a : DE) : DE := fun Γ Q => a Γ fun d Γ1 => match d with | .str x => x.length ≤ 1000000 ∧ Q (.tuple (signs x)) Γ1 | _ => False
theorem pde_tupleS {e : Expr} {p pos : Pos} {a : DE} (hc : X.calm = true) (ha : PDE X R e a) (hm : X.mg "tuple" = none) (hg : Gl X "tuple" := by rfl) (he : starEach [e] X.env = (false, eval e X.env) :: starEach [] X.env := by rfl) (hpl : (backTo pos (starEach [] X.env)).any (·.1) = false := by rfl) :
    PDE X R (.Call (.Name "tuple" p) [e] [] pos) (dTupleS a) := by
  refine ⟨⟨fun pins s σ H Q I q => ?_⟩, fun Γ W W' m h => ha.mono Γ _ _ (fun d Γ1 q => by cases d <;> first | exact ⟨q.1, m _ _ q.2⟩ | exact q) h⟩
  obtain ⟨Γ, D, r0, q⟩ := q
  have q' : liftE X.K R a σ H fun y H2 => ∃ (z : Str) (Γ2 : DEnv) (D2 : Hp), y = .str z ∧ z.length ≤ 1000000 ∧ Rep X.K R σ H2 Γ2 D2 ∧ Step σ Γ D H Γ2 D2 H2 ∧ ∀ v H' D', Rep X.K R σ H' Γ2 D' → Step σ Γ D H Γ2 D' H' → Dp X.K D' v (.tuple (signs z)) → Q v H' := goE r0 ha.mono q fun dd Γ1 v H1 D1 h1 r1 st q1 => by
    cases q1 with
    | str z => exact ⟨z, Γ1, D1, rfl, h1.1, r1, st, h1.2⟩
    | non => exact h1.elim
    | bl _ => exact h1.elim
    | int _ => exact h1.elim
    | lst _ _ => exact h1.elim
    | tup _ _ => exact h1.elim
  refine Call_ (ld_blt I hg hm boot_tuple (PyProof.Rows.callWith_type1 (one_arg ha.pe I q' (fun v s2 x H2 I2 rx ⟨z, Γ2, D2, ex, lz, r2, st2, fin⟩ => ?_) he) he))
  subst ex
  obtain ⟨t, rfl⟩ := rx
  refine call_tuple_str (I2.ok.hd hc) z t (fun h' tk acc hk items => ?_) (Nat.le_trans lz (by decide))
  have I3 : L2.Inv X pins σ H2 { s2 with heap := h', toks := tk } := I2.kept (t' := tk) hk
  have vals : Vals (z.cps.toList.map fun c => V.str ⟨#[c]⟩) acc.toList := by
    refine vals_of _ _ (by rw [List.length_map, Array.length_toList, Array.length_toList, items.1]) fun i x u e1 e2 => ?_
    rw [Array.getElem?_toList] at e2
    obtain ⟨c, w, e3, e4⟩ := items.2 i u e2
    rw [List.getElem?_map, Array.getElem?_toList, e3] at e1
    cases e1
    exact ⟨w, e4⟩
  have lim : (z.cps.toList.map fun c => V.str ⟨#[c]⟩).length ≤ sizeLine := by
    rw [List.length_map, Array.length_toList] -- k09
    exact Nat.le_trans lz (by decide)
  have new : H2 h'.objs.size = none := I3.hok.fresh (Nat.le_refl _)
  have I4 : L2.Inv X pins σ (upd H2 h'.objs.size (.tup (z.cps.toList.map fun c => V.str ⟨#[c]⟩))) { s2 with heap := h'.push { cls := .type "tuple", data := .seq acc }, toks := tk } :=
    I3.laid (t' := tk) (fun b o e => Heap.get?_push_of_some _ e) (Nat.le_refl _) (show ObjOk X.prog X.w _ _ _ (.tup _) from ⟨lim, acc.toList, vals, IsTup.new _ _⟩)
  have g := Grow.upd (o := .tup (z.cps.toList.map fun c => V.str ⟨#[c]⟩)) r2.sub new
  refine ⟨.ref h'.objs.size, _, I4, rfl, fin _ _ _ (r2.grow g) (st2.trans g.step) (.tup (SqT.of upd_same) ?_)⟩
  unfold signs
  have all : ∀ l : List Nat, DpAll X.K (upd D2 h'.objs.size (.tup (z.cps.toList.map fun c => V.str ⟨#[c]⟩))) (l.map fun c => V.str ⟨#[c]⟩) (l.map fun c => PyData.str ⟨#[c]⟩) := fun l => by
    induction l with
    | nil => exact .nil
    | cons a r ih => exact .cons (.str _) ih
  exact all _
end
end DL

set_option Elab.async false
set_option linter.all false
set_option maxRecDepth 100000
namespace T9
open PySem PySem.Spec PyProof.Rows L2 DL
def top (i : Nat) : Stmt := PySem.Challenge.pw_mumhouse_k09_texts_written.main.body.getD i (.Pass ⟨0, 0, 0, 0⟩)
def q1 (C : PyData → Prop) (f : PyData → PyData) : PSpec := fun ds W => ∃ d, ds = [d] ∧ C d ∧ W (f d)
def q2 (C : PyData → PyData → Prop) (f : PyData → PyData → PyData) : PSpec := fun ds W => ∃ d e, ds = [d, e] ∧ C d e ∧ W (f d e)
def q3 (C : PyData → PyData → PyData → Prop) (f : PyData → PyData → PyData → PyData) : PSpec := fun ds W => ∃ d e g, ds = [d, e, g] ∧ C d e g ∧ W (f d e g)
theorem q1_mono {C f} : MonoP (q1 C f) := fun ds W W' m ⟨d, e, c, h⟩ => ⟨d, e, c, m _ h⟩
theorem q2_mono {C f} : MonoP (q2 C f) := fun ds W W' m ⟨d, e, e1, c, h⟩ => ⟨d, e, e1, c, m _ h⟩
theorem q3_mono {C f} : MonoP (q3 C f) := fun ds W W' m ⟨d, e, g, e1, c, h⟩ => ⟨d, e, g, e1, c, m _ h⟩
theorem q1_len {C f} : ∀ ds Q, q1 C f ds Q → ds.length = 1 := fun ds Q ⟨d, e, _⟩ => by rw [e]; rfl
theorem q2_len {C f} : ∀ ds Q, q2 C f ds Q → ds.length = 2 := fun ds Q ⟨d, e', e, _⟩ => by rw [e]; rfl
theorem q3_len {C f} : ∀ ds Q, q3 C f ds Q → ds.length = 3 := fun ds Q ⟨d, e', e2, e, _⟩ => by rw [e]; rfl
theorem q1_at {C f d W} : q1 C f [d] W ↔ C d ∧ W (f d) := ⟨fun ⟨_, e, c, h⟩ => by cases e; exact ⟨c, h⟩, fun ⟨c, h⟩ => ⟨d, rfl, c, h⟩⟩
theorem q2_at {C f d e W} : q2 C f [d, e] W ↔ C d e ∧ W (f d e) := ⟨fun ⟨_, _, e, c, h⟩ => by cases e; exact ⟨c, h⟩, fun ⟨c, h⟩ => ⟨d, e, rfl, c, h⟩⟩
theorem q3_at {C f d e g W} : q3 C f [d, e, g] W ↔ C d e g ∧ W (f d e g) := ⟨fun ⟨_, _, _, e, c, h⟩ => by cases e; exact ⟨c, h⟩, fun ⟨c, h⟩ => ⟨d, e, g, rfl, c, h⟩⟩
def isInt : PyData → Bool | .int _ => true | _ => false
theorem cast_succ_ne (n : Nat) : (((n + 1 : Nat) : Int) = 0) ↔ False := ⟨fun h => by omega, False.elim⟩
local macro_rules | `(tactic| walk_at "ds P9a") => `(tactic| simp only [dSeq, dIfS, dRet, dRetN, dAsg, dAsgO, dSet, dDrop, dAsgG, dgTup, dgCons, dgName, dgNil, dNext, dBreak, dCont, dVar, dC, dOp, dTest, dAnd, dOr, dNot, dAndV, dOrV, dNotV, dIf, dIfL, dNil, dCons, dTup, dLst, dFrz, dCall, dCallP, dCallF, dCallN,
  dSeqOf, dRange1, dRange2, dEnum, dZip, dForD, dLcD, dYes, dAppend, dPop, dExtend, dSetItem, dTruO, bInt, bAdd, dNeg, bEq, bNe, bIs, bIsNot, bLt, bLe, bGt, bGe, bOrd, dChain, bIn, bIx, dIxO, dLenO, dNo, dYesO, dSlice, SlD, dIsi, dIsi2, cLen, cAll, cStr, cInt, cTuple, dListOf, dCat, dJoin, dFmt, dJs, dJoined, dGetT, dInT, dRev1, bRep, wipeD, backD, q1_at, q2_at, q3_at, isInt, cast_succ_ne, at0, at1, at2, at3, ex_some, cut1, eqvS, eqvI, shS, shI, flatD, List.all_cons, List.all_nil, Bool.and_true, decide_eq_true_eq, isTy, isNone,
  startD, startF, List.map_cons, List.map_nil, List.length_cons, List.length_nil, List.nil_append, List.cons_append, List.replicate, List.getElem?_cons_zero, List.getElem?_cons_succ, List.getElem?_nil, List.set_cons_zero, List.set_cons_succ, List.set_nil, Nat.zero_add, Nat.reduceAdd, Nat.reduceSub, Nat.reduceLT, Nat.reduceLeDiff, if_true, if_false, ite_true, ite_false, reduceIte, Bool.false_eq_true, Bool.not_true, Bool.not_false, Bool.true_eq_false, true_and, and_true, Nat.sub_self, Nat.sub_zero, Nat.reduceMul, List.replicate_zero, List.append_nil])
section
variable {P : Program} {w : World} {K : PySem.W.Frag} {mg : Str → Option Value} {base : Heap} {k : Nat} {f : Addr} {fd : FuncData}

theorem S_is_integer : FnScope ["thing"] ["thing"] (defScope (top 1)) := ⟨rfl, rfl, rfl, by decide +kernel, rfl, by decide +kernel, by decide +kernel⟩
theorem ok_is_integer (B : B0 mg) (F : Fun K "is_integer" "is_integer" (top 1) f fd) : FnOk P w K mg base CX0 (k + 1) f fd ["thing"] (spP K (q1 (fun _ => True) fun d => .bool (isInt d))) := by
  refine okP F S_is_integer q1_len q1_mono fun cdv A outer s H E R hr => ⟨_, (pdss_one (pds_ret (pde_and (pde_isi .int rfl (pd_var 0) B.isinstance B.int) (pde_one (pde_not (pde_isi .bool rfl (pd_var 0) B.isinstance B.bool)))))), ?_⟩
  rintro ds W ⟨d, rfl, _, h⟩
  cases d <;> (walk_at "ds P9a"; exact h)

def okC (c : Nat) : Bool := decide (97 ≤ c) && decide (c ≤ 122)
def okName (x : Str) : Bool := decide (1 ≤ x.length) && decide (x.length ≤ 8) && x.cps.toList.all okC
def isName : PyData → Bool | .str x => okName x | _ => false
theorem S_is_name : FnScope ["thing", "letter"] ["thing"] (defScope (top 2)) := ⟨rfl, rfl, rfl, by decide +kernel, rfl, by decide +kernel, by decide +kernel⟩
theorem chr_lt (a b : Nat) : (([a] : List Nat) < [b]) ↔ a < b := by
  rw [List.cons_lt_cons_iff]
  simp
theorem ok_is_name (B : B0 mg) (F : Fun K "is_name" "is_name" (top 2) f fd) : FnOk P w K mg base CX0 (k + 1) f fd ["thing"] (spP K (q1 (fun d => ∀ x, d = .str x → x.length ≤ 1000000) fun d => .bool (isName d))) := by
  refine okP F S_is_name q1_len q1_mono fun cdv A outer s H E R hr => ⟨_, (pdss_cons (pds_if (pdw_or (pdt_not (pdt_val (pde_isi .str rfl (pd_var 0) B.isinstance B.str))) (pdw_or1 (pdt_not (pdt_lele pd_int (pde_len (pd_var 0) B.len) pd_int)))).t (pdss_one (pds_ret pd_bl)) pdss_nil) (pdss_one (pds_ret (pde_all rfl (pde_frz (pdl_lcD (own := [("letter", 1)]) rfl S_is_name.nd (pdi_list (pd_var 0)) (blkOk (N := ["thing", "letter"]) (sc := defScope (top 2)) rfl (by decide +kernel) (by decide +kernel) (by decide +kernel) (by decide +kernel)) (fun _ _ _ _ _ => (pdg_name 1 S_is_name.nd)) (fun _ _ _ _ _ => pdts_nil) (fun _ _ _ _ _ => (pde_lele pd_str (pd_var 1) pd_str)))) B.all)))), ?_⟩
  rintro ds W ⟨d, rfl, c, h⟩
  cases d <;> try (walk_at "ds P9a"; exact h)
  rename_i x
  have c := c x rfl
  walk_at "ds P9a"
  refine ⟨c, ?_⟩
  by_cases h1 : (1 : Int) ≤ (x.length : Int)
  · by_cases h8 : (x.length : Int) ≤ 8
    · simp only [decide_eq_true h1, decide_eq_true h8]; walk_at "ds P9a"
      refine ⟨okW_of, lcD_map (fun d => match d with | .str y => .bool (y.cps.toList.all okC) | _ => .none) _ _ ?_ ?_ ?_⟩
      · have e : (DL.signs x).length = x.length := by unfold DL.signs Str.length; simp
        rw [e]; show 0 + _ ≤ _; omega
      · intro d hd Y Z hY
        obtain ⟨n, hn, rfl⟩ := List.mem_map.mp hd
        walk_at "ds P9a"
        have e1 : (!decide (([n] : List Nat) < (Str.ofString "a").cps.toList)) = decide (97 ≤ n) := by
          rw [show (Str.ofString "a").cps.toList = [97] by decide, decide_eq_decide.mpr (chr_lt n 97)]
          by_cases q : 97 ≤ n
          · rw [decide_eq_true q, decide_eq_false (by omega)]; rfl
          · rw [decide_eq_false q, decide_eq_true (by omega)]; rfl
        have e2 : (!decide ((Str.ofString "z").cps.toList < ([n] : List Nat))) = decide (n ≤ 122) := by
          rw [show (Str.ofString "z").cps.toList = [122] by decide, decide_eq_decide.mpr (chr_lt 122 n)]
          by_cases q : n ≤ 122
          · rw [decide_eq_true q, decide_eq_false (by omega)]; rfl
          · rw [decide_eq_false q, decide_eq_true (by omega)]; rfl
        have hY : ∀ Γ', backD Γ' [some (Ent.dat (PyData.str x)), none] [1] = [some (Ent.dat (PyData.str x)), none] → Y (.bool (okC n)) Γ' := fun Γ' e => by
          have q := hY Γ' e
          have z : (⟨#[n]⟩ : Str).cps.toList.all okC = okC n := by simp
          simp only [z] at q
          exact q
        unfold okC at hY
        rw [e1, e2]
        by_cases q : 97 ≤ n
        · rw [decide_eq_true q] at hY ⊢
          exact hY _ rfl
        · rw [decide_eq_false q] at hY ⊢
          exact hY _ rfl
      · refine ⟨x.cps.toList.map okC, ?_, ?_⟩
        · rw [List.nil_append]
          unfold DL.signs
          rw [List.map_map, List.map_map] -- k09
          refine congrArg (fun z => [PyData.list z]) (List.map_congr_left fun n _ => ?_)
          show PyData.bool (List.all (⟨#[n]⟩ : Str).cps.toList okC) = PyData.bool (okC n)
          simp
        · have e : isName (.str x) = (x.cps.toList.map okC).all id := by
            show okName x = _
            unfold okName
            rw [decide_eq_true (by omega), decide_eq_true (by omega), List.all_map]
            rfl
          rw [← e]
          exact h
    · simp only [decide_eq_true h1, decide_eq_false h8]; try walk_at "ds P9a"
      have e : isName (.str x) = false := by
        show okName x = _
        unfold okName
        rw [decide_eq_false (show ¬ x.length ≤ 8 by omega), Bool.and_false, Bool.false_and]
      have h : W (.bool (isName (.str x))) := h
      rw [e] at h
      exact h
  · simp only [decide_eq_false h1]; try walk_at "ds P9a"
    have e : isName (.str x) = false := by
      show okName x = _
      unfold okName
      rw [decide_eq_false (show ¬ 1 ≤ x.length by omega), Bool.false_and, Bool.false_and]
    have h : W (.bool (isName (.str x))) := h
    rw [e] at h
    exact h

def numTab (w : Str) : Option (List Str) :=
  if w = "of" then some ["name", "name"] else if w = "my" then some ["name"] else if w = "+" then some ["number", "number"] else if w = "-" then some ["number", "number"] else if w = "*" then some ["number", "number"]
  else if w = "least" then some ["number", "number"] else if w = "most" then some ["number", "number"] else if w = "if" then some ["condition", "number", "number"] else if w = "count" then some ["condition"] else if w = "sum" then some ["number", "condition"] else none
def condTab (w : Str) : Option (List Str) :=
  if w = "=" then some ["number", "number"] else if w = "<" then some ["number", "number"] else if w = "and" then some ["condition", "condition"] else if w = "or" then some ["condition", "condition"] else if w = "not" then some ["condition"] else none
def tupS (ks : List Str) : PyData := .tuple (ks.map .str)
def kOut : Option (List Str) → PyData | none => .none | some ks => tupS ks
def tabN (w : Str) : Option PyData := (numTab w).map tupS
def tabC (w : Str) : Option PyData := (condTab w).map tupS
def tabOf (k w : Str) : Option (List Str) := if k = "number" then numTab w else condTab w
theorem getD_tab (o : Option (List Str)) : (o.map tupS).getD .none = kOut o := by cases o <;> rfl
def fKinds : PyData → PyData → PyData | .str w, .str k => kOut (tabOf k w) | _, _ => .none
theorem S_kinds_behind : FnScope ["word", "kind"] ["word", "kind"] (defScope (top 10)) := ⟨rfl, rfl, rfl, by decide +kernel, rfl, by decide +kernel, by decide +kernel⟩
theorem ok_kinds_behind (F : Fun K "kinds_behind" "kinds_behind" (top 10) f fd) (g_NUMBER : HasStr mg "NUMBER" "number") {d_NUMBERS d_CONDITIONS : Addr} (g_NUMBERS : mg "NUMBERS" = some (.ref d_NUMBERS)) (g_CONDITIONS : mg "CONDITIONS" = some (.ref d_CONDITIONS))
    (k_NUMBERS : KTab K w d_NUMBERS tabN) (k_CONDITIONS : KTab K w d_CONDITIONS tabC) : FnOk P w K mg base CX0 (k + 1) f fd ["word", "kind"] (spP K (q2 (fun d e => (∃ w, d = .str w) ∧ ∃ k, e = .str k ∧ PyData.strOk k = true) fKinds)) := by
  refine okP F S_kinds_behind q2_len q2_mono fun cdv A outer s H E R hr => ⟨_, (pdss_cons (pds_if (pdt_eq hr.units (pd_var 1) (pd_globS g_NUMBER)) (pdss_one (pds_ret (pde_getT k_NUMBERS g_NUMBERS (pd_var 0) ⟨rfl, rfl, rfl, rfl⟩))) pdss_nil) (pdss_one (pds_ret (pde_getT k_CONDITIONS g_CONDITIONS (pd_var 0) ⟨rfl, rfl, rfl, rfl⟩)))), ?_⟩
  rintro ds W ⟨d, e, rfl, ⟨⟨w, rfl⟩, ⟨k, rfl, hk⟩⟩, h⟩
  walk_at "ds P9a"
  refine ⟨hk, by decide +kernel, ?_⟩
  show if k = "number" then _ else _
  have h : W (kOut (tabOf k w)) := h
  unfold tabOf at h
  unfold tabN tabC
  rw [getD_tab, getD_tab]
  by_cases q : k = "number"
  · rw [if_pos q] at h ⊢
    exact h
  · rw [if_neg q] at h ⊢
    exact h
def kindOf : PyData → Str | .tuple (.str w :: _) => if (condTab w).isSome then "condition" else "number" | _ => "number"
def Wordy (d : PyData) : Prop := (∃ i, d = .int i) ∨ ∃ w r, d = .tuple (.str w :: r)
theorem S__kind_of : FnScope ["expression"] ["expression"] (defScope (top 11)) := ⟨rfl, rfl, rfl, by decide +kernel, rfl, by decide +kernel, by decide +kernel⟩
theorem ok__kind_of (B : B0 mg) (F : Fun K "_kind_of" "_kind_of" (top 11) f fd) (g_NUMBER : HasStr mg "NUMBER" "number") (g_CONDITION : HasStr mg "CONDITION" "condition") {d_CONDITIONS : Addr} (g_CONDITIONS : mg "CONDITIONS" = some (.ref d_CONDITIONS))
    (k_CONDITIONS : KTab K w d_CONDITIONS tabC) : FnOk P w K mg base CX0 (k + 1) f fd ["expression"] (spP K (q1 Wordy fun d => .str (kindOf d))) := by
  refine okP F S__kind_of q1_len q1_mono fun cdv A outer s H E R hr => ⟨_, (pdss_cons (pds_if (pdw_and (pdt_val (pde_isi .tuple rfl (pd_var 0) B.isinstance B.tuple)) (pdw_and1 (pdt_inT k_CONDITIONS g_CONDITIONS (pde_ix (pd_var 0) pd_int)))).t (pdss_one (pds_ret (pd_globS g_CONDITION))) pdss_nil) (pdss_one (pds_ret (pd_globS g_NUMBER)))), ?_⟩
  rintro ds W ⟨d, rfl, ⟨i, rfl⟩ | ⟨w, r, rfl⟩, h⟩
  · walk_at "ds P9a"
    exact h
  · walk_at "ds P9a"
    have h : W (.str (if (condTab w).isSome then "condition" else "number")) := h
    have e : (tabC w).isSome = (condTab w).isSome := by unfold tabC; cases condTab w <;> rfl
    rw [e]
    by_cases q : (condTab w).isSome = true
    · rw [if_pos q] at h ⊢
      exact h
    · rw [if_neg q] at h ⊢
      exact h
def counts : PyData → Bool | .tuple (.str w :: _) => decide (w = "count") || decide (w = "sum") | _ => false
theorem S__counts : FnScope ["part"] ["part"] (defScope (top 15)) := ⟨rfl, rfl, rfl, by decide +kernel, rfl, by decide +kernel, by decide +kernel⟩
theorem ok__counts (B : B0 mg) (F : Fun K "_counts" "_counts" (top 15) f fd) : FnOk P w K mg base CX0 (k + 1) f fd ["part"] (spP K (q1 Wordy fun d => .bool (counts d))) := by
  refine okP F S__counts q1_len q1_mono fun cdv A outer s H E R hr => ⟨_, (pdss_one (pds_ret (pde_and (pde_isi .tuple rfl (pd_var 0) B.isinstance B.tuple) (pde_one (pde_in (pde_ix (pd_var 0) pd_int) (pde_tup (pda_cons pd_str (pda_cons pd_str pda_nil)))))))), ?_⟩
  rintro ds W ⟨d, rfl, ⟨i, rfl⟩ | ⟨w, r, rfl⟩, h⟩
  · walk_at "ds P9a"
    exact h
  · walk_at "ds P9a"
    have e : inD (.str w) [.str "count", .str "sum"] = counts (.tuple (.str w :: r)) := by
      unfold inD counts
      simp only [List.any_cons, List.any_nil, eqvS, Bool.or_false]
      rw [decide_eq_decide.mpr (eq_comm (a := (Str.ofString "count")) (b := w)), decide_eq_decide.mpr (eq_comm (a := (Str.ofString "sum")) (b := w))]
    rw [show inD (.str w) _ = _ from e]
    exact h
theorem S__fits : FnScope ["part", "house", "counted", "fields", "field"] ["part", "house", "counted"] (defScope (top 14)) := ⟨rfl, rfl, rfl, by decide +kernel, rfl, by decide +kernel, by decide +kernel⟩
theorem ok__fits (B : B0 mg) (F : Fun K "_fits" "_fits" (top 14) f fd) (h_is_integer : Has P w K mg base "is_integer" k ["thing"] (spP K (q1 (fun _ => True) fun d => .bool (isInt d)))) : FnOk P w K mg base CX0 (k + 1) f fd ["part", "house", "counted"] (spP K (q3 (fun _ e _ => e = .none) fun _ _ _ => .bool true)) := by
  refine okP F S__fits q3_len q3_mono fun cdv A outer s H E R hr => ⟨_, (pdss_cons (pds_if (pdw_or (pdt_is (pd_var 1) pd_non) (pdw_or1 (pdt_val (pde_callH q1_mono h_is_integer hr (pda_cons (pd_var 0) pda_nil))))).t (pdss_one (pds_ret pd_bl)) pdss_nil) (pdss_cons (pds_setLcD (i := 3) rfl S__fits.nd rfl (own := [("field", 4)]) (pdi_list (pde_ix (pd_var 1) pd_int)) (blkOk (N := ["part", "house", "counted", "fields", "field"]) (sc := defScope (top 14)) rfl (by decide +kernel) (by decide +kernel) (by decide +kernel) (by decide +kernel)) (fun _ _ _ _ _ => (pdg_name 4 S__fits.nd)) (fun _ _ _ _ _ => pdts_nil) (fun _ _ _ _ _ => (pde_ix (pd_var 4) pd_int))) (pdss_cons (pds_if (pdt_eq hr.units (pde_ix (pd_var 0) pd_int) pd_str) (pdss_one (pds_ret (pde_and (pde_in (pde_ix (pd_var 0) pd_int) (pde_ix (pd_var 1) pd_int)) (pde_one (pde_in (pde_ix (pd_var 0) pd_int) (pd_var 3)))))) pdss_nil) (pdss_cons (pds_if (pdt_eq hr.units (pde_ix (pd_var 0) pd_int) pd_str) (pdss_one (pds_ret (pde_and (pd_var 2) (pde_one (pde_in (pde_ix (pd_var 0) pd_int) (pd_var 3)))))) pdss_nil) (pdss_one (pds_ret pd_bl)))))), ?_⟩
  rintro ds W ⟨d, e, g, rfl, rfl, h⟩
  walk_at "ds P9a"
  exact h

def goodK : PyData × Str → Bool | (d, s) => !decide (s = "name") || isName d
def kindsIn : PyData → Str → Option (List Str)
  | .int _, k => if k = "number" then some [] else none
  | .tuple (.str w :: r), k => (tabOf k w).bind fun ks => if r.length = ks.length ∧ (r.zip ks).all goodK = true then some ks else none
  | _, _ => none
theorem S__kinds_in : FnScope ["part", "kind", "kinds", "item", "due"] ["part", "kind"] (defScope (top 13)) := ⟨rfl, rfl, rfl, by decide +kernel, rfl, by decide +kernel, by decide +kernel⟩
def kiC (d e : PyData) : Prop := (∃ k, e = .str k ∧ PyData.strOk k = true) ∧ ∀ r, d = .tuple r → ∀ z ∈ r, ∀ x, z = .str x → x.length ≤ 1000000
def kiF (d e : PyData) : PyData := match e with | .str k => kOut (kindsIn d k) | _ => .none
theorem zips_zip : ∀ (r : List PyData) (ks : List Str), zips r (ks.map .str) = (r.zip ks).map fun q => .tuple [q.1, .str q.2]
  | [], _ => rfl
  | _ :: _, [] => rfl
  | x :: r, s :: ks => by
    have := zips_zip r ks
    unfold zips at this ⊢
    rw [List.map_cons, List.zipWith_cons_cons, this]
    rfl
theorem zips_mem {r : List PyData} {ks : List Str} {d : PyData} (h : d ∈ zips r (ks.map .str)) : ∃ x s, x ∈ r ∧ s ∈ ks ∧ d = .tuple [x, .str s] := by
  rw [zips_zip] at h
  obtain ⟨⟨x, s⟩, h1, rfl⟩ := List.mem_map.mp h
  exact ⟨x, s, (List.of_mem_zip h1).1, (List.of_mem_zip h1).2, rfl⟩
def pNam : PyData → Bool | .tuple [_, .str s] => decide (s = "name") | _ => false
def fNam : PyData → PyData | .tuple [x, _] => .bool (isName x) | _ => .none
theorem all_nam (r : List PyData) (ks : List Str) : ((((r.zip ks).filter fun q => decide (q.2 = ("name" : Str))).map fun q => isName q.1).all id) = (r.zip ks).all goodK := by
  rw [List.all_map, List.all_filter]
  refine congrArg (List.all _) (funext fun q => ?_)
  obtain ⟨x, s⟩ := q
  rfl
theorem num_tab {w : Str} {ks : List Str} (h : numTab w = some ks) : ks.length ≤ 3 ∧ ∀ s ∈ ks, s = "name" ∨ s = "number" ∨ s = "condition" := by
  unfold numTab at h
  repeat' split at h
  all_goals first | (cases h; exact ⟨by decide, by decide +kernel⟩) | cases h
theorem cond_tab {w : Str} {ks : List Str} (h : condTab w = some ks) : ks.length ≤ 3 ∧ ∀ s ∈ ks, s = "name" ∨ s = "number" ∨ s = "condition" := by
  unfold condTab at h
  repeat' split at h
  all_goals first | (cases h; exact ⟨by decide, by decide +kernel⟩) | cases h
theorem tab_all {k w : Str} {ks : List Str} (h : tabOf k w = some ks) : ks.length ≤ 3 ∧ ∀ s ∈ ks, s = "name" ∨ s = "number" ∨ s = "condition" := by
  unfold tabOf at h
  split at h
  · exact num_tab h
  · exact cond_tab h
theorem tab_few {k w : Str} {ks : List Str} (h : tabOf k w = some ks) : ks.length ≤ 3 := (tab_all h).1
theorem tab_ok {k w : Str} {ks : List Str} (h : tabOf k w = some ks) (s : Str) (hs : s ∈ ks) : PyData.strOk s = true := by
  rcases (tab_all h).2 s hs with e | e | e <;> (rw [e]; decide +kernel)
theorem ok__kinds_in (B : B0 mg) (F : Fun K "_kinds_in" "_kinds_in" (top 13) f fd) (g_NAME : HasStr mg "NAME" "name") (g_NUMBER : HasStr mg "NUMBER" "number") (h_is_integer : Has P w K mg base "is_integer" k ["thing"] (spP K (q1 (fun _ => True) fun d => .bool (isInt d))))
    (h_is_name : Has P w K mg base "is_name" k ["thing"] (spP K (q1 (fun d => ∀ x, d = .str x → x.length ≤ 1000000) fun d => .bool (isName d))))
    (h_kinds_behind : Has P w K mg base "kinds_behind" k ["word", "kind"] (spP K (q2 (fun d e => (∃ w, d = .str w) ∧ ∃ k, e = .str k ∧ PyData.strOk k = true) fKinds))) : FnOk P w K mg base CX0 (k + 1) f fd ["part", "kind"] (spP K (q2 kiC kiF)) := by
  refine okP F S__kinds_in q2_len q2_mono fun cdv A outer s H E R hr => ⟨_, (pdss_cons (pds_if (pdt_val (pde_callH q1_mono h_is_integer hr (pda_cons (pd_var 0) pda_nil))) (pdss_one (pds_ret (pde_if (pdt_eq hr.units (pd_var 1) (pd_globS g_NUMBER)) (pde_tup pda_nil) pd_non))) pdss_nil) (pdss_cons (pds_if (pdw_or (pdt_not (pdt_val (pde_isi .tuple rfl (pd_var 0) B.isinstance B.tuple))) (pdw_or (pdt_eq hr.units (pde_len (pd_var 0) B.len) pd_int) (pdw_or1 (pdt_not (pdt_val (pde_isi .str rfl (pde_ix (pd_var 0) pd_int) B.isinstance B.str)))))).t (pdss_one (pds_ret pd_non)) pdss_nil) (pdss_cons (pds_set (i := 2) S__kinds_in.nd (pde_callH q2_mono h_kinds_behind hr (pda_cons (pde_ix (pd_var 0) pd_int) (pda_cons (pd_var 1) pda_nil)))) (pdss_cons (pds_if (pdw_or (pdt_is (pd_var 2) pd_non) (pdw_or1 (pdt_ne hr.units (pde_len (pd_var 0) B.len) (pde_add (pde_len (pd_var 2) B.len) pd_int)))).t (pdss_one (pds_ret pd_non)) pdss_nil) (pdss_cons (pds_if (pdt_not (pdt_val (pde_all rfl (pde_frz (pdl_lcD (own := [("item", 3), ("due", 4)]) rfl S__kinds_in.nd (pdi_zip rfl B.zip (pda_cons (pde_slice (pd_var 0) (pdo_some pd_int) pdo_none) (pda_cons (pd_var 2) pda_nil))) (blkOk (N := ["part", "kind", "kinds", "item", "due"]) (sc := defScope (top 13)) rfl (by decide +kernel) (by decide +kernel) (by decide +kernel) (by decide +kernel)) (fun _ _ _ _ _ => (pdg_tup (n := 2) rfl (pdgs_cons (pdg_name 3 S__kinds_in.nd) (pdgs_cons (pdg_name 4 S__kinds_in.nd) pdgs_nil)))) (fun _ _ _ _ _ => (pdts_one (pdt_eq hr.units (pd_var 4) (pd_globS g_NAME)))) (fun _ _ _ _ _ => (pde_callH q1_mono h_is_name hr (pda_cons (pd_var 3) pda_nil))))) B.all))) (pdss_one (pds_ret pd_non)) pdss_nil) (pdss_one (pds_ret (pd_var 2)))))))), ?_⟩
  rintro ds W ⟨d, e, rfl, ⟨⟨k, rfl, hk⟩, hr⟩, h⟩
  have none_of : ∀ d, kindsIn d k = none → W (kiF d (.str k)) → W .none := fun d e h => by
    have h : W (kOut (kindsIn d k)) := h
    rw [e] at h
    exact h
  cases d with
  | int i =>
    walk_at "ds P9a"
    refine ⟨hk, by decide +kernel, ?_⟩
    have h : W (kOut (if k = "number" then some [] else none)) := h
    by_cases q : k = "number"
    · rw [if_pos q] at h ⊢
      exact h
    · rw [if_neg q] at h ⊢
      exact h
  | tuple r =>
    cases r with
    | nil =>
      walk_at "ds P9a"
      exact none_of _ rfl h
    | cons z r =>
      cases z with
      | str w =>
        have hw : ∀ z ∈ r, ∀ x, z = .str x → x.length ≤ 1000000 := fun z hz => hr _ rfl z (List.mem_cons_of_mem _ hz)
        have hF : fKinds (.str w) (.str k) = kOut (tabOf k w) := rfl
        have hG : W (kOut ((tabOf k w).bind fun ks => if r.length = ks.length ∧ (r.zip ks).all goodK = true then some ks else none)) := h
        cases hT : tabOf k w with
        | none =>
          rw [hT] at hF hG
          walk_at "ds P9a"
          simp only [hF, kOut]
          try walk_at "ds P9a"
          exact ⟨⟨⟨_, rfl⟩, ⟨_, rfl, hk⟩⟩, hG⟩
        | some ks =>
          rw [hT] at hF hG
          walk_at "ds P9a"
          simp only [hF, kOut, tupS]
          walk_at "ds P9a"
          refine ⟨⟨⟨_, rfl⟩, ⟨_, rfl, hk⟩⟩, ?_⟩
          have hG : W (kOut (if r.length = ks.length ∧ (r.zip ks).all goodK = true then some ks else none)) := hG
          by_cases hl : r.length = ks.length
          · rw [if_neg (by rw [List.length_map, hl]; simp)]
            refine ⟨okW_of, lcD_fm pNam fNam _ _ ?_ ?_ ?_⟩
            · rw [zips_len, List.length_map]
              have := tab_few hT
              show 0 + _ ≤ _
              omega
            · intro d hd Y Z hY hZ
              obtain ⟨x, s, hx, hs, rfl⟩ := zips_mem hd
              walk_at "ds P9a"
              refine ⟨tab_ok hT s hs, by decide +kernel, ?_⟩
              by_cases q : s = "name"
              · rw [if_pos q]
                exact ⟨fun y hy => hw x hx y hy, hY (decide_eq_true q) _ rfl⟩
              · rw [if_neg q]
                exact hZ (decide_eq_false q) _ rfl
            · refine ⟨((r.zip ks).filter fun q => decide (q.2 = ("name" : Str))).map fun q => isName q.1, ?_, ?_⟩
              · rw [List.nil_append, zips_zip, List.filter_map, List.map_map, List.map_map]
                rfl
              · have e := all_nam r ks
                by_cases q : (r.zip ks).all goodK = true
                · rw [if_pos ⟨hl, q⟩] at hG
                  rw [if_neg (by rw [e, q]; decide)]
                  exact hG
                · rw [if_neg fun z => q z.2] at hG
                  rw [if_pos (by rw [e, Bool.eq_false_iff.mpr q]; rfl)]
                  exact hG
          · rw [if_pos (by rw [List.length_map, decide_eq_false (by omega)]; rfl)]
            rw [if_neg fun z => hl z.1] at hG
            exact hG
      | _ =>
        walk_at "ds P9a"
        exact none_of _ rfl h
  | _ => 
    walk_at "ds P9a"
    exact none_of _ rfl h
end
end T9

set_option Elab.async false
set_option linter.all false
set_option maxRecDepth 100000
namespace T9
open PySem PySem.Spec PyProof.Rows L2 DL
def dSetC : Option (Option Ent) → Prop → Prop
  | some (some (Ent.arg _)), _ => False
  | some _, Q => Q
  | none, _ => False
theorem dSet_eq {i : Nat} {e : Ent} {Γ : DEnv} {Q : DEnv → Prop} : dSet i e Γ Q = dSetC Γ[i]? (Q (Γ.set i (some e))) := by
  unfold dSet dSetC
  rcases Γ[i]? with _ | _ | c <;> first | rfl | (cases c <;> rfl)
def odat (y : Option PyData) : Option Ent := y.map Ent.dat
theorem sc_n {Q} : dSetC (some none) Q = Q := rfl
theorem sc_d {d Q} : dSetC (some (some (Ent.dat d))) Q = Q := rfl
theorem sc_o {d Q} : dSetC (some (some (Ent.own d))) Q = Q := rfl
theorem sc_y {y Q} : dSetC (some (odat y)) Q = Q := by cases y <;> rfl
theorem popget {α : Type} (xs : List α) (a : α) : (xs ++ [a])[(xs ++ [a]).length - 1]? = some a := by
  rw [List.length_append, List.length_singleton, Nat.add_sub_cancel, List.getElem?_append_right (Nat.le_refl _), Nat.sub_self]
  rfl
theorem emp_app {α : Type} (xs : List α) (a : α) : (xs ++ [a]).isEmpty = false := by cases xs <;> rfl
theorem down0 : down 0 = [] := rfl
theorem down1 : down 1 = [.int 0] := rfl
theorem down2 : down 2 = [.int 1, .int 0] := rfl
theorem down3 : down 3 = [.int 2, .int 1, .int 0] := rfl
theorem popex {α : Type} {xs : List α} {a : α} {P : α → Prop} : (∃ z, (xs ++ [a])[(xs ++ [a]).length - 1]? = some z ∧ P z) ↔ P a := by rw [popget]; exact ex_some
theorem atx0 {α : Type} {a : α} {r : List α} {P : α → Prop} : (∃ z, atI (a :: r) 0 = some z ∧ P z) ↔ P a := by rw [at0]; exact ex_some
theorem atx1 {α : Type} {a b : α} {r : List α} {P : α → Prop} : (∃ z, atI (a :: b :: r) 1 = some z ∧ P z) ↔ P b := by rw [at1]; exact ex_some
theorem atx2 {α : Type} {a b c : α} {r : List α} {P : α → Prop} : (∃ z, atI (a :: b :: c :: r) 2 = some z ∧ P z) ↔ P c := by rw [at2]; exact ex_some
theorem atx3 {α : Type} {a b c d : α} {r : List α} {P : α → Prop} : (∃ z, atI (a :: b :: c :: d :: r) 3 = some z ∧ P z) ↔ P d := by rw [at3]; exact ex_some
local macro_rules | `(tactic| walk_at "ds P9b") => `(tactic| simp only [↓dSeq, ↓dIfS, ↓dRet, ↓dRetN, ↓dAsg, ↓dAsgO, ↓dSet_eq, ↓sc_n, ↓sc_d, ↓sc_o, ↓sc_y, ↓dDrop, ↓dAsgG, ↓dgTup, ↓dgCons, ↓dgName, ↓dgNil, ↓dNext, ↓dBreak, ↓dCont, ↓dVar, ↓dC, ↓dOp, ↓dTest, ↓dAnd, ↓dOr, ↓dNot, ↓dAndV, ↓dOrV, ↓dNotV, ↓dIf, ↓dIfL, ↓dNil, ↓dCons, ↓dTup, ↓dLst, ↓dFrz, ↓dCall, ↓dCallP, ↓dCallF, ↓dCallN, ↓dSeqOf, ↓dRange1, ↓dRange2, ↓dEnum, ↓dZip, ↓dForD, ↓forD, ↓dLcD, ↓dYes, ↓dAppend, ↓dPop, ↓dExtend, ↓dSetItem, ↓dTruO, ↓bInt, ↓bAdd, ↓dNeg, ↓bEq, ↓bNe, ↓bIs, ↓bIsNot, ↓bLt, ↓bLe, ↓bGt, ↓bGe, ↓bOrd, ↓dChain, ↓bIn, ↓bIx, ↓dIxO, ↓dLenO, ↓dNo, ↓dYesO, ↓dSlice, ↓SlD, ↓dIsi, ↓dIsi2, ↓cLen, ↓cAll, ↓cStr, ↓cInt, ↓cTuple, ↓dListOf, ↓dCat, ↓dJoin, ↓dFmt, ↓dJs, ↓dJoined, ↓dGetT, ↓dInT, ↓dRev1, ↓bRep, ↓q1_at, ↓q2_at, ↓q3_at, ↓popex, ↓atx0, ↓atx1, ↓atx2, ↓atx3, ↓reduceIte,
  wipeD, backD, isInt, cast_succ_ne, at0, at1, at2, at3, ex_some, cut1, eqvS, eqvI, shS, shI, flatD, popget, emp_app, down0, down1, down2, down3, List.dropLast_concat, List.all_cons, List.all_nil, Bool.and_true, decide_eq_true_eq, isTy, isNone, startD, startF, List.map_cons, List.map_nil, List.length_cons, List.length_nil, List.nil_append, List.cons_append, List.replicate, List.getElem?_cons_zero, List.getElem?_cons_succ, List.getElem?_nil, List.set_cons_zero, List.set_cons_succ, List.set_nil, Nat.zero_add, Nat.reduceAdd, Nat.reduceSub, Nat.reduceLT, Nat.reduceLeDiff, Int.reduceAdd, Int.reduceSub, Int.toNat_natCast, if_true, if_false, ite_true, ite_false, Bool.false_eq_true, Bool.not_true, Bool.not_false, Bool.true_eq_false, true_and, and_true, Nat.sub_self, Nat.sub_zero, Nat.reduceMul, List.replicate_zero, List.append_nil])

inductive Tm where
  | num (i : Int) | nam (w : Str) (ns : List Str) | one (w : Str) (a : Tm) | two (w : Str) (a b : Tm) | tri (w : Str) (a b c : Tm)
def enc : Tm → PyData
  | .num i => .int i
  | .nam w ns => .tuple (.str w :: ns.map .str)
  | .one w a => .tuple [.str w, enc a]
  | .two w a b => .tuple [.str w, enc a, enc b]
  | .tri w a b c => .tuple [.str w, enc a, enc b, enc c]
def siz : Tm → Nat
  | .num _ => 1
  | .nam _ _ => 1
  | .one _ a => siz a + 1
  | .two _ a b => siz a + siz b + 1
  | .tri _ a b c => siz a + siz b + siz c + 1
def pre : Tm → List Tm
  | .num i => [.num i]
  | .nam w ns => [.nam w ns]
  | .one w a => .one w a :: pre a
  | .two w a b => .two w a b :: (pre a ++ pre b)
  | .tri w a b c => .tri w a b c :: (pre a ++ (pre b ++ pre c))
def wf : Str → Tm → Prop
  | k, .num i => k = "number" ∧ i.natAbs.log2 < 200
  | k, .nam w ns => tabOf k w = some (ns.map fun _ => ("name" : Str)) ∧ ∀ n ∈ ns, okName n = true
  | k, .one w a => ∃ ka, tabOf k w = some [ka] ∧ ka ≠ "name" ∧ wf ka a
  | k, .two w a b => ∃ ka kb, tabOf k w = some [ka, kb] ∧ ka ≠ "name" ∧ kb ≠ "name" ∧ wf ka a ∧ wf kb b
  | k, .tri w a b c => ∃ ka kb kc, tabOf k w = some [ka, kb, kc] ∧ ka ≠ "name" ∧ kb ≠ "name" ∧ kc ≠ "name" ∧ wf ka a ∧ wf kb b ∧ wf kc c
theorem pre_len : ∀ t, (pre t).length = siz t
  | .num _ => rfl
  | .nam _ _ => rfl
  | .one _ a => by simp [pre, siz, pre_len a]
  | .two _ a b => by simp [pre, siz, pre_len a, pre_len b]
  | .tri _ a b c => by simp [pre, siz, pre_len a, pre_len b, pre_len c]; omega
theorem enc_wordy (t : Tm) : Wordy (enc t) := by
  cases t
  · exact .inl ⟨_, rfl⟩
  all_goals exact .inr ⟨_, _, rfl⟩
theorem name_len {n : Str} (h : okName n = true) : n.length ≤ 8 := by
  unfold okName at h
  simp only [Bool.and_eq_true, decide_eq_true_eq] at h -- k09
  exact h.1.2
theorem num_word {w : Str} {ks : List Str} (h : numTab w = some ks) : w.length ≤ 5 := by
  unfold numTab at h
  repeat' split at h
  all_goals first | (rename_i e; subst e; decide +kernel) | cases h
theorem cond_word {w : Str} {ks : List Str} (h : condTab w = some ks) : w.length ≤ 5 := by
  unfold condTab at h
  repeat' split at h
  all_goals first | (rename_i e; subst e; decide +kernel) | cases h
theorem tab_word {k w : Str} {ks : List Str} (h : tabOf k w = some ks) : w.length ≤ 5 := by
  unfold tabOf at h
  split at h
  · exact num_word h
  · exact cond_word h
theorem enc_str {t : Tm} {x : Str} : enc t ≠ .str x := by cases t <;> (intro h; cases h)
theorem enc_kiC {t : Tm} {k : Str} (hk : PyData.strOk k = true) (h : wf k t) : kiC (enc t) (.str k) := by
  refine ⟨⟨k, rfl, hk⟩, fun r e z hz x ex => ?_⟩
  subst ex
  cases t with
  | num i => cases e
  | nam w ns =>
    cases e
    rcases List.mem_cons.mp hz with e | e
    · cases e
      have := tab_word h.1
      omega
    · obtain ⟨n, hn, e⟩ := List.mem_map.mp e
      cases e
      have := name_len (h.2 x hn)
      omega
  | one w a =>
    obtain ⟨ka, ht, _⟩ := h
    cases e
    have := tab_word ht
    simp only [List.mem_cons, List.not_mem_nil, or_false] at hz
    rcases hz with e | e
    · cases e; omega
    · exact absurd e.symm enc_str
  | two w a b =>
    obtain ⟨ka, kb, ht, _⟩ := h
    cases e
    have := tab_word ht
    simp only [List.mem_cons, List.not_mem_nil, or_false] at hz
    rcases hz with e | e | e
    · cases e; omega
    · exact absurd e.symm enc_str
    · exact absurd e.symm enc_str
  | tri w a b c =>
    obtain ⟨ka, kb, kc, ht, _⟩ := h
    cases e
    have := tab_word ht
    simp only [List.mem_cons, List.not_mem_nil, or_false] at hz
    rcases hz with e | e | e | e
    · cases e; omega
    · exact absurd e.symm enc_str
    · exact absurd e.symm enc_str
    · exact absurd e.symm enc_str
theorem good_sub {d : PyData} {s : Str} (h : s ≠ "name") : goodK (d, s) = true := by
  show (!decide (s = "name") || isName d) = true
  rw [decide_eq_false h]
  rfl
theorem zip_names : ∀ {ns : List Str}, (∀ n ∈ ns, okName n = true) → ((ns.map PyData.str).zip (ns.map fun _ => ("name" : Str))).all goodK = true
  | [], _ => rfl
  | n :: ns, h => by
    show (goodK (.str n, "name") && ((ns.map PyData.str).zip (ns.map fun _ => ("name" : Str))).all goodK) = true
    rw [zip_names fun m hm => h m (List.mem_cons_of_mem _ hm)]
    have : goodK (.str n, "name") = true := by
      show (!decide (("name" : Str) = "name") || okName n) = true
      rw [h n List.mem_cons_self, Bool.or_true]
    rw [this]
    rfl
theorem ki_nam {w : Str} {ns : List Str} {k : Str} (h : wf k (.nam w ns)) : kindsIn (enc (.nam w ns)) k = some (ns.map fun _ => ("name" : Str)) := by
  show (tabOf k w).bind _ = _
  rw [h.1]
  show (if _ then _ else _) = _
  rw [if_pos ⟨by simp, zip_names h.2⟩]
theorem ki_one {w : Str} {a : Tm} {k ka : Str} (h : tabOf k w = some [ka]) (ha : ka ≠ "name") : kindsIn (enc (.one w a)) k = some [ka] := by
  show (tabOf k w).bind _ = _
  rw [h]
  show (if _ then _ else _) = _
  rw [if_pos ⟨rfl, by show (goodK _ && true) = true; rw [good_sub ha]; rfl⟩]
theorem ki_two {w : Str} {a b : Tm} {k ka kb : Str} (h : tabOf k w = some [ka, kb]) (ha : ka ≠ "name") (hb : kb ≠ "name") : kindsIn (enc (.two w a b)) k = some [ka, kb] := by
  show (tabOf k w).bind _ = _
  rw [h]
  show (if _ then _ else _) = _
  rw [if_pos ⟨rfl, by show (goodK _ && (goodK _ && true)) = true; rw [good_sub ha, good_sub hb]; rfl⟩]
theorem ki_tri {w : Str} {a b c : Tm} {k ka kb kc : Str} (h : tabOf k w = some [ka, kb, kc]) (ha : ka ≠ "name") (hb : kb ≠ "name") (hc : kc ≠ "name") : kindsIn (enc (.tri w a b c)) k = some [ka, kb, kc] := by
  show (tabOf k w).bind _ = _
  rw [h]
  show (if _ then _ else _) = _
  rw [if_pos ⟨rfl, by show (goodK _ && (goodK _ && (goodK _ && true))) = true; rw [good_sub ha, good_sub hb, good_sub hc]; rfl⟩]
theorem ki_num {i : Int} {k : Str} (h : wf k (.num i)) : kindsIn (enc (.num i)) k = some [] := by
  show (if k = "number" then some [] else none) = _
  rw [if_pos h.1]

inductive All2 {α β : Type} (r : α → β → Prop) : List α → List β → Prop
  | nil : All2 r [] []
  | cons {a as b bs} (h : r a b) (t : All2 r as bs) : All2 r (a :: as) (b :: bs)
theorem All2.app {α β : Type} {r : α → β → Prop} {as : List α} {bs : List β} (h : All2 r as bs) {a : α} {b : β} (q : r a b) : All2 r (as ++ [a]) (bs ++ [b]) := by
  induction h with
  | nil => exact .cons q .nil
  | cons h t ih => exact .cons h ih
theorem All2.len {α β : Type} {r : α → β → Prop} {as : List α} {bs : List β} (h : All2 r as bs) : as.length = bs.length := by
  induction h with
  | nil => rfl
  | cons h t ih => simp [ih]
def isRow (d : PyData) (t : Tm) : Prop := ∃ a k : Int, d = .tuple [enc t, .int a, .int k]
def isCome (d : PyData) (p : Tm × Str) : Prop := (∃ (a j : Int) (c : Bool), d = .tuple [enc p.1, .int a, .int j, .str p.2, .bool c]) ∧ wf p.2 p.1 ∧ (p.2 = "number" ∨ p.2 = "condition")
def walkS : PSpec := fun ds W => ∃ t k, ds = [enc t, .str k, .none] ∧ wf k t ∧ (k = "number" ∨ k = "condition") ∧ siz t ≤ 100000 ∧ ∀ rows, All2 isRow rows (pre t) → W (.tuple [.list rows, .bool false])
theorem walkS_mono : MonoP walkS := fun ds W W' m ⟨t, k, e, a, b, c, h⟩ => ⟨t, k, e, a, b, c, fun rows r => m _ (h rows r)⟩
theorem S__walk : FnScope ["thing", "kind", "house", "rows", "coming", "part", "above", "k", "due", "counted", "kinds", "at", "within", "j"] ["thing", "kind", "house"] (defScope (top 12)) := ⟨rfl, rfl, rfl, by decide +kernel, rfl, by decide +kernel, by decide +kernel⟩
def WI (t0 : Tm) (k0 : Str) (m : Nat) (Γ : DEnv) : Prop := ∃ rows cs st ps y5 y6 y7 y8 y9 ya yb yc yd, Γ = [some (Ent.dat (enc t0)), some (Ent.dat (PyData.str k0)), some (Ent.dat PyData.none), some (Ent.own rows), some (Ent.own cs.reverse), odat y5, odat y6, odat y7, odat y8, odat y9, odat ya, odat yb, odat yc, odat yd] ∧
  All2 isRow rows ps ∧ All2 isCome cs st ∧ ps ++ st.flatMap (fun p => pre p.1) = pre t0 ∧ m = (st.map fun p => siz p.1).sum
theorem WI.mk {t0 : Tm} {k0 : Str} {rows cs' : List PyData} {ps : List Tm} {st' : List (Tm × Str)} {y5 y6 y7 y8 y9 ya yb yc : PyData} {e : Option Ent} {m : Nat} (hr : All2 isRow rows ps) (hc : All2 isCome cs' st') (hp : ps ++ st'.flatMap (fun p => pre p.1) = pre t0) {l : List PyData} (hl : l = cs'.reverse) (he : ∃ y, e = odat y) (hm : (st'.map fun p => siz p.1).sum < m) :
    ∃ m', m' < m ∧ WI t0 k0 m' [some (Ent.dat (enc t0)), some (Ent.dat (PyData.str k0)), some (Ent.dat PyData.none), some (Ent.own rows), some (Ent.own l), some (Ent.dat y5), some (Ent.dat y6), some (Ent.dat y7), some (Ent.dat y8), some (Ent.dat y9), some (Ent.dat ya), some (Ent.dat yb), some (Ent.dat yc), e] := by
  obtain ⟨y, rfl⟩ := he
  exact ⟨_, hm, rows, cs', st', ps, some y5, some y6, some y7, some y8, some y9, some ya, some yb, some yc, y, by rw [hl]; rfl, hr, hc, hp, rfl⟩
theorem flat_len : ∀ st : List (Tm × Str), st.length ≤ (st.flatMap fun p => pre p.1).length
  | [] => Nat.le_refl _
  | p :: st => by
    have := flat_len st
    have h1 : 1 ≤ (pre p.1).length := by
      rw [pre_len]
      cases p.1 <;> simp [siz]
    rw [List.flatMap_cons, List.length_append, List.length_cons]
    omega
theorem p1 {t : Tm} {k : Str} (a j : Int) (c : Bool) (h : wf k t) (hk : k = "number" ∨ k = "condition") : isCome (.tuple [enc t, .int a, .int j, .str k, .bool c]) (t, k) := ⟨⟨a, j, c, rfl⟩, h, hk⟩
theorem strOk_k {k : Str} (h : k = "number" ∨ k = "condition") : PyData.strOk k = true := by rcases h with rfl | rfl <;> decide +kernel
theorem tab_k {k w : Str} {ks : List Str} (h : tabOf k w = some ks) {s : Str} (hs : s ∈ ks) (n : s ≠ "name") : s = "number" ∨ s = "condition" := by
  rcases (tab_all h).2 s hs with e | e
  · exact absurd e n
  · exact e
theorem kcases {c x : Bool} {Q : Bool → Prop} (h : ∀ y, Q y) : (match PyData.bool c with | .bool false => Q x | .bool true => Q true | _ => False) := by cases c <;> exact h _
section
variable {P : Program} {w : World} {K : PySem.W.Frag} {mg : Str → Option Value} {base : Heap} {k : Nat} {f : Addr} {fd : FuncData}
theorem ok__walk (B : B0 mg) (F : Fun K "_walk" "_walk" (top 12) f fd) (g_NAME : HasStr mg "NAME" "name") (h__kinds_in : Has P w K mg base "_kinds_in" k ["part", "kind"] (spP K (q2 kiC kiF))) (h__fits : Has P w K mg base "_fits" k ["part", "house", "counted"] (spP K (q3 (fun _ e _ => e = .none) fun _ _ _ => .bool true)))
    (h__counts : Has P w K mg base "_counts" k ["part"] (spP K (q1 Wordy fun d => .bool (counts d)))) : FnOk P w K mg base CX0 (k + 1) f fd ["thing", "kind", "house"] (spP K walkS) := by
  refine okP F S__walk (fun ds Q ⟨_, _, e, _⟩ => by rw [e]; rfl) walkS_mono fun cdv A outer s H E R hr => ⟨_, (pdss_cons (pds_setO (i := 3) S__walk.nd (pdl_lst pda_nil)) (pdss_cons (pds_setO (i := 4) S__walk.nd (pdl_lst (pda_cons (pde_tup (pda_cons (pd_var 0) (pda_cons pd_int (pda_cons pd_int (pda_cons (pd_var 1) (pda_cons pd_bl pda_nil)))))) pda_nil))) (pdss_cons (pds_while PassesOwn.never (pdt_truO 4) (pdss_cons (pds_asg (pde_pop 4) (pdg_tup (n := 5) rfl (pdgs_cons (pdg_name 5 S__walk.nd) (pdgs_cons (pdg_name 6 S__walk.nd) (pdgs_cons (pdg_name 7 S__walk.nd) (pdgs_cons (pdg_name 8 S__walk.nd) (pdgs_cons (pdg_name 9 S__walk.nd) pdgs_nil))))))) (pdss_cons (pds_append 3 (pde_tup (pda_cons (pd_var 5) (pda_cons (pd_var 6) (pda_cons (pd_var 7) pda_nil))))) (pdss_cons (pds_set (i := 10) S__walk.nd (pde_callH q2_mono h__kinds_in hr (pda_cons (pd_var 5) (pda_cons (pd_var 8) pda_nil)))) (pdss_cons (pds_if (pdw_or (pdt_is (pd_var 10) pd_non) (pdw_or1 (pdt_not (pdt_val (pde_callH q3_mono h__fits hr (pda_cons (pd_var 5) (pda_cons (pd_var 2) (pda_cons (pd_var 9) pda_nil)))))))).t (pdss_one (pds_ret (pde_tup (pda_cons (pd_var 3) (pda_cons pd_bl pda_nil))))) pdss_nil) (pdss_cons (pds_set (i := 11) S__walk.nd (pde_sub (pde_lenO 3 B.len) pd_int)) (pdss_cons (pds_set (i := 12) S__walk.nd (pde_or (pd_var 9) (pde_one (pde_callH q1_mono h__counts hr (pda_cons (pd_var 5) pda_nil))))) (pdss_one (pds_forD PassesOwn.never rfl (pdi_rev1 (pde_len (pd_var 10) B.len) B.reversed B.range) (pdg_name 13 S__walk.nd) (pdss_one (pds_if (pdt_ne hr.units (pde_ix (pd_var 10) (pd_var 13)) (pd_globS g_NAME)) (pdss_one (pds_append 4 (pde_tup (pda_cons (pde_ix (pd_var 5) (pde_add (pd_var 13) pd_int)) (pda_cons (pd_var 11) (pda_cons (pde_add (pd_var 13) pd_int) (pda_cons (pde_ix (pd_var 10) (pd_var 13)) (pda_cons (pd_var 12) pda_nil)))))))) pdss_nil))))))))))) (pdss_one (pds_ret (pde_tup (pda_cons (pd_var 3) (pda_cons pd_bl pda_nil)))))))), ?_⟩
  rintro ds W ⟨t0, k0, rfl, w0, hk0, z0, h⟩
  walk_at "ds P9b"
  refine ⟨WI t0 k0, ⟨_, [], [_], [(t0, k0)], [], none, none, none, none, none, none, none, none, none, rfl, .nil, .cons ⟨⟨0, 0, false, rfl⟩, w0, hk0⟩ .nil, by simp, rfl⟩, ?_⟩
  rintro m Γ' ⟨rows, cs, st, ps, y5, y6, y7, y8, y9, ya, yb, yc, yd, rfl, hrow, hcome, hps, rfl⟩
  have few : rows.length < 1000000 := by
    have e1 := hrow.len
    have e2 := congrArg List.length hps
    rw [List.length_append, pre_len] at e2
    omega
  cases hcome with
  | nil =>
    walk_at "ds P9b"
    rw [List.flatMap_nil, List.append_nil] at hps
    subst hps
    exact h rows hrow
  | @cons d cs p st hc ht =>
    obtain ⟨⟨a, j, c, rfl⟩, wp, hk⟩ := hc
    obtain ⟨t, k1⟩ := p
    have wp : wf k1 t := wp
    have hk : k1 = "number" ∨ k1 = "condition" := hk
    rw [List.reverse_cons]
    have hrow' : All2 isRow (rows ++ [PyData.tuple [enc t, PyData.int a, PyData.int j]]) (ps ++ [t]) := hrow.app ⟨a, j, rfl⟩
    have len_cs : cs.length < 900000 := by
      have e1 := ht.len
      have e2 := congrArg List.length hps
      have e3 := flat_len st
      rw [List.length_append, pre_len, List.flatMap_cons, List.length_append] at e2
      omega
    have hps' : ∀ x, pre t = t :: x → (ps ++ [t]) ++ (x ++ st.flatMap fun p => pre p.1) = pre t0 := fun x e => by
      rw [← hps, List.flatMap_cons]
      show _ = ps ++ (pre t ++ _)
      rw [e]
      simp
    cases c <;>
    (walk_at "ds P9b"
     refine ⟨few, enc_kiC (strOk_k hk) wp, ?_⟩
     cases t with
      | num i =>
        rw [show kiF (enc (.num i)) (.str k1) = tupS [] from congrArg kOut (ki_num wp)]
        simp only [tupS]
        walk_at "ds P9b"
        (try refine ⟨enc_wordy _, ?_⟩)
        refine ⟨⟨by decide, by decide⟩, WI.mk hrow' ht (hps' [] rfl) rfl ⟨_, rfl⟩ ?_⟩
        simp only [List.sum_cons, siz]; omega
      | one w1 a1 =>
        obtain ⟨ka, hT, na, wa⟩ := wp
        rw [show kiF (enc (.one w1 a1)) (.str k1) = tupS [ka] from congrArg kOut (ki_one hT na)]
        simp only [tupS, show enc (.one w1 a1) = .tuple [.str w1, enc a1] from rfl]
        walk_at "ds P9b"
        simp only [decide_eq_false na]
        walk_at "ds P9b"
        (try refine ⟨enc_wordy (.one w1 a1), ?_⟩)
        refine ⟨⟨by decide, by decide⟩, strOk_k (tab_k hT (by simp) na), by decide +kernel, by rw [List.length_reverse]; omega,
          WI.mk hrow' (.cons (p1 _ _ _ wa (tab_k hT (by simp) na)) ht) (hps' _ rfl) (by rw [List.reverse_cons]) ⟨some (.int 0), rfl⟩ ?_⟩
        simp only [List.map_cons, List.sum_cons, siz]; omega
      | two w1 a1 b1 =>
        obtain ⟨ka, kb, hT, na, nb, wa, wb⟩ := wp
        rw [show kiF (enc (.two w1 a1 b1)) (.str k1) = tupS [ka, kb] from congrArg kOut (ki_two hT na nb)]
        simp only [tupS, show enc (.two w1 a1 b1) = .tuple [.str w1, enc a1, enc b1] from rfl]
        walk_at "ds P9b"
        simp only [decide_eq_false na, decide_eq_false nb]
        walk_at "ds P9b"
        (try refine ⟨enc_wordy (.two w1 a1 b1), ?_⟩)
        refine ⟨⟨by decide, by decide⟩, strOk_k (tab_k hT (by simp) nb), by decide +kernel, by rw [List.length_reverse]; omega, strOk_k (tab_k hT (by simp) na), by decide +kernel, by rw [List.length_append, List.length_reverse]; show cs.length + 1 < _; omega,
          WI.mk hrow' (.cons (p1 _ _ _ wa (tab_k hT (by simp) na)) (.cons (p1 _ _ _ wb (tab_k hT (by simp) nb)) ht)) (by have z := hps' _ rfl; simpa only [List.flatMap_cons, List.append_assoc] using z) (by rw [List.reverse_cons, List.reverse_cons]) ⟨some (.int 0), rfl⟩ ?_⟩
        simp only [List.map_cons, List.sum_cons, siz]; omega
      | tri w1 a1 b1 c1 =>
        obtain ⟨ka, kb, kc, hT, na, nb, nc, wa, wb, wc⟩ := wp
        rw [show kiF (enc (.tri w1 a1 b1 c1)) (.str k1) = tupS [ka, kb, kc] from congrArg kOut (ki_tri hT na nb nc)]
        simp only [tupS, show enc (.tri w1 a1 b1 c1) = .tuple [.str w1, enc a1, enc b1, enc c1] from rfl]
        walk_at "ds P9b"
        simp only [decide_eq_false na, decide_eq_false nb, decide_eq_false nc]
        walk_at "ds P9b"
        (try refine ⟨enc_wordy (.tri w1 a1 b1 c1), ?_⟩)
        refine ⟨⟨by decide, by decide⟩, strOk_k (tab_k hT (by simp) nc), by decide +kernel, by rw [List.length_reverse]; omega, strOk_k (tab_k hT (by simp) nb), by decide +kernel, by rw [List.length_append, List.length_reverse]; show cs.length + 1 < _; omega,
          strOk_k (tab_k hT (by simp) na), by decide +kernel, by rw [List.length_append, List.length_append, List.length_reverse]; show cs.length + 1 + 1 < _; omega,
          WI.mk hrow' (.cons (p1 _ _ _ wa (tab_k hT (by simp) na)) (.cons (p1 _ _ _ wb (tab_k hT (by simp) nb)) (.cons (p1 _ _ _ wc (tab_k hT (by simp) nc)) ht))) (by have z := hps' _ rfl; simpa only [List.flatMap_cons, List.append_assoc] using z) (by rw [List.reverse_cons, List.reverse_cons, List.reverse_cons]) ⟨some (.int 0), rfl⟩ ?_⟩
        simp only [List.map_cons, List.sum_cons, siz]; omega
      | nam w1 ns =>
        have z3 := tab_few wp.1
        rw [List.length_map] at z3
        rw [show kiF (enc (.nam w1 ns)) (.str k1) = tupS (ns.map fun _ => ("name" : Str)) from congrArg kOut (ki_nam wp)]
        rcases ns with _ | ⟨n, _ | ⟨n2, _ | ⟨n3, _ | ⟨n4, r⟩⟩⟩⟩
        · simp only [tupS, List.map_nil]
          walk_at "ds P9b"
          (try refine ⟨enc_wordy _, ?_⟩)
          refine ⟨⟨by decide, by decide⟩, WI.mk hrow' ht (hps' [] rfl) rfl ⟨_, rfl⟩ ?_⟩
          simp only [List.sum_cons, siz]; omega
        · skip
          simp only [tupS, List.map_cons, List.map_nil]
          walk_at "ds P9b"
          simp only [decide_true]
          try walk_at "ds P9b"
          (try refine ⟨enc_wordy _, ?_⟩)
          refine ⟨⟨by decide, by decide⟩, by decide +kernel, by decide +kernel, WI.mk hrow' ht (hps' [] rfl) rfl ⟨some (.int 0), rfl⟩ ?_⟩
          simp only [List.sum_cons, siz]; omega
        · skip
          simp only [tupS, List.map_cons, List.map_nil]
          walk_at "ds P9b"
          simp only [decide_true]
          try walk_at "ds P9b"
          (try refine ⟨enc_wordy _, ?_⟩)
          refine ⟨⟨by decide, by decide⟩, by decide +kernel, by decide +kernel, by decide +kernel, by decide +kernel, WI.mk hrow' ht (hps' [] rfl) rfl ⟨some (.int 0), rfl⟩ ?_⟩
          simp only [List.sum_cons, siz]; omega
        · skip
          simp only [tupS, List.map_cons, List.map_nil]
          walk_at "ds P9b"
          simp only [decide_true]
          try walk_at "ds P9b"
          (try refine ⟨enc_wordy _, ?_⟩)
          refine ⟨⟨by decide, by decide⟩, by decide +kernel, by decide +kernel, by decide +kernel, by decide +kernel, by decide +kernel, by decide +kernel, WI.mk hrow' ht (hps' [] rfl) rfl ⟨some (.int 0), rfl⟩ ?_⟩
          simp only [List.sum_cons, siz]; omega
        · exact absurd z3 (by simp))
end
end T9

set_option Elab.async false
set_option linter.all false
set_option maxRecDepth 100000
namespace T9
open PySem PySem.Spec PyProof.Rows L2 DL
local macro_rules | `(tactic| walk_at "ds P9c") => `(tactic| simp only [↓dSeq, ↓dIfS, ↓dRet, ↓dRetN, ↓dAsg, ↓dAsgO, ↓dSet_eq, ↓sc_n, ↓sc_d, ↓sc_o, ↓sc_y, ↓dDrop, ↓dAsgG, ↓dgTup, ↓dgCons, ↓dgName, ↓dgNil, ↓dNext, ↓dBreak, ↓dCont, ↓dVar, ↓dC, ↓dOp, ↓dTest, ↓dAnd, ↓dOr, ↓dNot, ↓dAndV, ↓dOrV, ↓dNotV, ↓dIf, ↓dIfL, ↓dNil, ↓dCons, ↓dTup, ↓dLst, ↓dFrz, ↓dCall, ↓dCallP, ↓dCallF, ↓dCallN, ↓dSeqOf, ↓dRange1, ↓dRange2, ↓dEnum, ↓dZip, ↓dForD, ↓forD, ↓dLcD, ↓dYes, ↓dAppend, ↓dPop, ↓dExtend, ↓dSetItem, ↓dTruO, ↓bInt, ↓bAdd, ↓dNeg, ↓bEq, ↓bNe, ↓bIs, ↓bIsNot, ↓bLt, ↓bLe, ↓bGt, ↓bGe, ↓bOrd, ↓dChain, ↓bIn, ↓bIx, ↓dIxO, ↓dLenO, ↓dNo, ↓dYesO, ↓dSlice, ↓SlD, ↓dIsi, ↓dIsi2, ↓cLen, ↓cAll, ↓cStr, ↓cInt, ↓cTuple, ↓dListOf, ↓dCat, ↓dJoin, ↓dFmt, ↓dJs, ↓dJoined, ↓dGetT, ↓dInT, ↓dRev1, ↓bRep, ↓q1_at, ↓q2_at, ↓q3_at, ↓popex, ↓atx0, ↓atx1, ↓atx2, ↓atx3, ↓reduceIte,
  wipeD, backD, isInt, cast_succ_ne, at0, at1, at2, at3, ex_some, cut1, eqvS, eqvI, shS, shI, flatD, popget, emp_app, down0, down1, down2, down3, List.dropLast_concat, List.all_cons, List.all_nil, Bool.and_true, decide_eq_true_eq, isTy, isNone, startD, startF, List.map_cons, List.map_nil, List.length_cons, List.length_nil, List.nil_append, List.cons_append, List.replicate, List.getElem?_cons_zero, List.getElem?_cons_succ, List.getElem?_nil, List.set_cons_zero, List.set_cons_succ, List.set_nil, Nat.zero_add, Nat.reduceAdd, Nat.reduceSub, Nat.reduceLT, Nat.reduceLeDiff, Int.reduceAdd, Int.reduceSub, Int.toNat_natCast, if_true, if_false, ite_true, ite_false, Bool.false_eq_true, Bool.not_true, Bool.not_false, Bool.true_eq_false, true_and, and_true, Nat.sub_self, Nat.sub_zero, Nat.reduceMul, List.replicate_zero, List.append_nil])

def chOk (x : Str) : Prop := ∀ c ∈ x.cps.toList, c < 4294967296
def nm50 (x : Str) : Prop := x.length ≤ 50 ∧ chOk x
def nmb (x : Str) : Bool := decide (x.length ≤ 50) && x.cps.toList.all fun c => decide (c < 4294967296)
theorem nm50_b {x : Str} (h : nmb x = true) : nm50 x := by
  unfold nmb at h
  simp only [Bool.and_eq_true, decide_eq_true_eq, List.all_eq_true] at h
  exact h
theorem ch_name {x : Str} (h : okName x = true) : chOk x := fun c hc => by
  unfold okName at h
  simp only [Bool.and_eq_true, List.all_eq_true] at h
  have := h.2 c hc
  unfold okC at this
  simp only [Bool.and_eq_true, decide_eq_true_eq] at this
  omega
theorem nm50_name {x : Str} (h : okName x = true) : nm50 x := ⟨by have := name_len h; omega, ch_name h⟩

def headL : Tm → List Str
  | .num i => [Str.ofString (toString i)]
  | .nam w ns => w :: ns
  | .one w _ => [w]
  | .two w _ _ => [w]
  | .tri w _ _ _ => [w]
def wordsL : Tm → List Str
  | .num i => [Str.ofString (toString i)]
  | .nam w ns => w :: ns
  | .one w a => w :: wordsL a
  | .two w a b => w :: (wordsL a ++ wordsL b)
  | .tri w a b c => w :: (wordsL a ++ (wordsL b ++ wordsL c))
theorem words_pre : ∀ t, wordsL t = (pre t).flatMap headL
  | .num _ => rfl
  | .nam _ _ => by simp [wordsL, pre, headL]
  | .one _ a => by simp [wordsL, pre, headL, words_pre a]
  | .two _ a b => by simp [wordsL, pre, headL, words_pre a, words_pre b]
  | .tri _ a b c => by simp [wordsL, pre, headL, words_pre a, words_pre b, words_pre c]
theorem head_ne (t : Tm) : headL t ≠ [] := by cases t <;> simp [headL]
abbrev J (z : Str) (xs : List Str) : Str := Txt.join z xs
theorem J_eq (z : Str) (xs : List Str) : J z xs = Str.join z xs := PySem.StrLaws.glued_eq_join z xs
theorem sj_cons (z x : Str) (ys : List Str) (h : ys ≠ []) : Str.join z (x :: ys) = x ++ z ++ Str.join z ys := by
  cases ys with
  | nil => exact absurd rfl h
  | cons y r => rfl
theorem sj_app (z : Str) : ∀ (xs ys : List Str), xs ≠ [] → ys ≠ [] → Str.join z (xs ++ ys) = Str.join z xs ++ z ++ Str.join z ys
  | [], _, h, _ => absurd rfl h
  | [x], ys, _, h => sj_cons z x ys h
  | x :: y :: r, ys, _, h => by
    show Str.join z (x :: (y :: r ++ ys)) = Str.join z (x :: y :: r) ++ z ++ Str.join z ys
    rw [sj_cons z x (y :: r ++ ys) (by simp), sj_app z (y :: r) ys (by simp) h, sj_cons z x (y :: r) (by simp)]
    simp only [Str.append_assoc]
theorem sj_flat (z : Str) : ∀ (ll : List (List Str)), (∀ l ∈ ll, l ≠ []) → Str.join z ll.flatten = Str.join z (ll.map (Str.join z))
  | [], _ => rfl
  | [l], _ => by simp [Str.join]
  | l :: m :: r, h => by
    have h2 : (m :: r).flatten ≠ [] := by
      have := h m (by simp)
      intro e
      rw [List.flatten_cons] at e
      exact this (List.append_eq_nil_iff.mp e).1
    rw [List.flatten_cons, sj_app z l _ (h l (by simp)) h2, sj_flat z (m :: r) fun x hx => h x (List.mem_cons_of_mem _ hx)]
    rfl
def headS (t : Tm) : Str := J " " (headL t)
def textS (t : Tm) : Str := J " " (wordsL t)
theorem text_pre (t : Tm) : J " " ((pre t).map headS) = textS t := by
  unfold textS headS
  rw [J_eq, J_eq, words_pre, List.flatMap_def, sj_flat _ _ (fun l hl => by
    obtain ⟨p, _, rfl⟩ := List.mem_map.mp hl
    exact head_ne p), List.map_map]
  exact congrArg _ (List.map_congr_left fun p _ => J_eq _ _)
theorem head_num (i : Int) : headS (.num i) = Str.ofString (toString i) := rfl

theorem num_cond {w : Str} {ks : List Str} (h : numTab w = some ks) : condTab w = none := by
  unfold numTab at h
  repeat' split at h
  all_goals first | (rename_i e; subst e; decide +kernel) | cases h
theorem kind_wf {t : Tm} {k : Str} (h : wf k t) (hk : k = "number" ∨ k = "condition") : kindOf (enc t) = k := by
  have go : ∀ w r ks, tabOf k w = some ks → kindOf (.tuple (.str w :: r)) = k := fun w r ks e => by
    show (if (condTab w).isSome then ("condition" : Str) else "number") = k
    rcases hk with rfl | rfl
    · rw [num_cond (w := w) (ks := ks) e]; rfl
    · have e : condTab w = some ks := e
      rw [e]; rfl
  cases t with
  | num i => exact h.1.symm
  | nam w ns => exact go _ _ _ h.1
  | one w a => obtain ⟨ka, e, _⟩ := h; exact go _ _ _ e
  | two w a b => obtain ⟨ka, kb, e, _⟩ := h; exact go _ _ _ e
  | tri w a b c => obtain ⟨ka, kb, kc, e, _⟩ := h; exact go _ _ _ e
def Good (t : Tm) : Prop := ∃ k, wf k t ∧ (k = "number" ∨ k = "condition") ∧ siz t ≤ 2000
def gS (r : Tm → PyData) : PSpec := fun ds W => ∃ t, ds = [enc t] ∧ Good t ∧ W (r t)
theorem gS_mono {r} : MonoP (gS r) := fun ds W W' m ⟨t, e, g, h⟩ => ⟨t, e, g, m _ h⟩
theorem gS_len {r} : ∀ ds Q, gS r ds Q → ds.length = 1 := fun ds Q ⟨t, e, _⟩ => by rw [e]; rfl
def gH (r : Tm → PyData) : PSpec := fun ds W => ∃ t, ds = [enc t] ∧ (∃ k, wf k t) ∧ W (r t)
theorem gH_mono {r} : MonoP (gH r) := fun ds W W' m ⟨t, e, g, h⟩ => ⟨t, e, g, m _ h⟩
theorem gH_len {r} : ∀ ds Q, gH r ds Q → ds.length = 1 := fun ds Q ⟨t, e, _⟩ => by rw [e]; rfl
section
variable {P : Program} {w : World} {K : PySem.W.Frag} {mg : Str → Option Value} {base : Heap} {k : Nat} {f : Addr} {fd : FuncData}
theorem S_plain_parts : FnScope ["expression", "rows", "_", "row"] ["expression"] (defScope (top 9)) := ⟨rfl, rfl, rfl, by decide +kernel, rfl, by decide +kernel, by decide +kernel⟩
def fst3 : PyData → PyData | .tuple (p :: _) => p | _ => .none
theorem rows_fst {rows : List PyData} {ps : List Tm} (h : All2 isRow rows ps) : rows.map fst3 = ps.map enc := by
  induction h with
  | nil => rfl
  | cons h t ih =>
    obtain ⟨a, k, rfl⟩ := h
    rw [List.map_cons, List.map_cons, ih]
    rfl
theorem rows_mem {rows : List PyData} {ps : List Tm} (h : All2 isRow rows ps) : ∀ d ∈ rows, ∃ p x, d = .tuple (p :: x) := by
  induction h with
  | nil => intro d hd; cases hd
  | cons h t ih =>
    intro d hd
    rcases List.mem_cons.mp hd with e | e
    · obtain ⟨a, k, e2⟩ := h
      exact ⟨_, _, e.trans e2⟩
    · exact ih d e
theorem ok_plain_parts (B : B0 mg) (F : Fun K "plain_parts" "plain_parts" (top 9) f fd) (h__walk : Has P w K mg base "_walk" k ["thing", "kind", "house"] (spP K walkS)) (h__kind_of : Has P w K mg base "_kind_of" k ["expression"] (spP K (q1 Wordy fun d => .str (kindOf d)))) :
    FnOk P w K mg base CX0 (k + 1) f fd ["expression"] (spP K (gS fun t => .list ((pre t).map enc))) := by
  refine okP F S_plain_parts gS_len gS_mono fun cdv A outer s H E R hr => ⟨_, (pdss_cons (pds_asg (pde_callH walkS_mono h__walk hr (pda_cons (pd_var 0) (pda_cons (pde_callH q1_mono h__kind_of hr (pda_cons (pd_var 0) pda_nil)) (pda_cons pd_non pda_nil)))) (pdg_tup (n := 2) rfl (pdgs_cons (pdg_name 1 S_plain_parts.nd) (pdgs_cons (pdg_name 2 S_plain_parts.nd) pdgs_nil)))) (pdss_one (pds_ret (pde_frz (pdl_lcD (own := [("row", 3)]) rfl S_plain_parts.nd (pdi_list (pd_var 1)) (blkOk (N := ["expression", "rows", "_", "row"]) (sc := defScope (top 9)) rfl (by decide +kernel) (by decide +kernel) (by decide +kernel) (by decide +kernel)) (fun _ _ _ _ _ => (pdg_name 3 S_plain_parts.nd)) (fun _ _ _ _ _ => pdts_nil) (fun _ _ _ _ _ => (pde_ix (pd_var 3) pd_int))))))), ?_⟩
  rintro ds W ⟨t, rfl, ⟨k0, wt, hk, hs⟩, h⟩
  walk_at "ds P9c"
  refine ⟨enc_wordy t, t, k0, by rw [kind_wf wt hk], wt, hk, by omega, fun rows hrow => ?_⟩
  walk_at "ds P9c"
  refine ⟨okW_of, lcD_map fst3 _ _ ?_ ?_ ?_⟩
  · rw [hrow.len, pre_len]
    show 0 + _ ≤ _
    omega
  · intro d hd Y Z hY
    obtain ⟨p, x, rfl⟩ := rows_mem hrow d hd
    walk_at "ds P9c"
    exact hY _ rfl
  · rw [List.nil_append, rows_fst hrow]
    exact h
def isStrD : PyData → Bool | .str _ => true | _ => false
theorem filt_names : ∀ ns : List Str, (ns.map PyData.str).filter isStrD = ns.map PyData.str
  | [] => rfl
  | n :: ns => by
    rw [List.map_cons, List.filter_cons_of_pos rfl, filt_names ns]
theorem enc_nostr (t : Tm) : isStrD (enc t) = false := by cases t <;> rfl
theorem head_filt {t : Tm} {ds : List PyData} (h : enc t = .tuple ds) : ds.filter isStrD = (headL t).map PyData.str := by
  cases t with
  | num i => cases h
  | nam w ns =>
    cases h
    show (PyData.str w :: ns.map PyData.str).filter isStrD = _
    rw [List.filter_cons_of_pos rfl, filt_names]
    rfl
  | one w a =>
    cases h
    rw [List.filter_cons_of_pos rfl, List.filter_cons_of_neg (by rw [enc_nostr]; simp)]
    rfl
  | two w a b =>
    cases h
    rw [List.filter_cons_of_pos rfl, List.filter_cons_of_neg (by rw [enc_nostr]; simp), List.filter_cons_of_neg (by rw [enc_nostr]; simp)]
    rfl
  | tri w a b c =>
    cases h
    rw [List.filter_cons_of_pos rfl, List.filter_cons_of_neg (by rw [enc_nostr]; simp), List.filter_cons_of_neg (by rw [enc_nostr]; simp), List.filter_cons_of_neg (by rw [enc_nostr]; simp)]
    rfl
theorem wf_nam {k w : Str} {ns : List Str} (h : wf k (.nam w ns)) : ns.length ≤ 3 ∧ w.length ≤ 5 ∧ ∀ n ∈ ns, n.length ≤ 8 := by
  have a := tab_few h.1
  rw [List.length_map] at a
  exact ⟨a, tab_word h.1, fun n hn => name_len (h.2 n hn)⟩
theorem sum_le {c : Nat} : ∀ {xs : List Str}, (∀ x ∈ xs, x.length ≤ c) → (xs.map (·.length)).sum ≤ xs.length * c
  | [], _ => Nat.zero_le _
  | x :: xs, h => by
    rw [List.map_cons, List.sum_cons, List.length_cons, Nat.succ_mul] -- k09
    have := h x List.mem_cons_self
    have := sum_le fun y hy => h y (List.mem_cons_of_mem _ hy)
    omega
theorem tlen {i : Int} (h : i.natAbs.log2 < 200) : (Str.ofString (toString i)).length ≤ 201 := by
  rw [PySem.ofString_length]
  exact int_text_length_le (by decide) h
theorem headL_few {k : Str} {t : Tm} (h : wf k t) : (headL t).length ≤ 4 ∧ ∀ x ∈ headL t, x.length ≤ 201 := by
  cases t with
  | num i =>
    refine ⟨by show 1 ≤ 4; omega, fun x hx => ?_⟩
    rw [List.mem_singleton.mp hx]
    exact tlen h.2
  | nam w ns =>
    obtain ⟨a, b, c⟩ := wf_nam h
    refine ⟨by show ns.length + 1 ≤ 4; omega, fun x hx => ?_⟩
    rcases List.mem_cons.mp hx with e | e
    · rw [e]; omega
    · have := c x e; omega
  | one w a =>
    obtain ⟨ka, e, _⟩ := h
    have := tab_word e
    exact ⟨by show 1 ≤ 4; omega, fun x hx => by rw [List.mem_singleton.mp hx]; omega⟩
  | two w a b =>
    obtain ⟨ka, kb, e, _⟩ := h
    have := tab_word e
    exact ⟨by show 1 ≤ 4; omega, fun x hx => by rw [List.mem_singleton.mp hx]; omega⟩
  | tri w a b c =>
    obtain ⟨ka, kb, kc, e, _⟩ := h
    have := tab_word e
    exact ⟨by show 1 ≤ 4; omega, fun x hx => by rw [List.mem_singleton.mp hx]; omega⟩
theorem enc_cases (t : Tm) : (∃ i, t = .num i) ∨ ∃ ds, enc t = .tuple ds := by
  cases t
  · exact .inl ⟨_, rfl⟩
  all_goals exact .inr ⟨_, rfl⟩
theorem enc_few {t : Tm} {ds : List PyData} {k : Str} (e : enc t = .tuple ds) (h : wf k t) : ds.length ≤ 4 := by
  cases t with
  | num i => cases e
  | nam w ns =>
    cases e
    have := (wf_nam h).1
    show (ns.map PyData.str).length + 1 ≤ 4
    rw [List.length_map]; omega
  | one w a => cases e; show 2 ≤ 4; omega
  | two w a b => cases e; show 3 ≤ 4; omega
  | tri w a b c => cases e; show 4 ≤ 4; omega
theorem S__head : FnScope ["part", "item"] ["part"] (defScope (top 22)) := ⟨rfl, rfl, rfl, by decide +kernel, rfl, by decide +kernel, by decide +kernel⟩
theorem ok__head (B : B0 mg) (F : Fun K "_head" "_head" (top 22) f fd) (h_is_integer : Has P w K mg base "is_integer" k ["thing"] (spP K (q1 (fun _ => True) fun d => .bool (isInt d)))) :
    FnOk P w K mg base CX0 (k + 1) f fd ["part"] (spP K (gH fun t => .str (headS t))) := by
  refine okP F S__head gH_len gH_mono fun cdv A outer s H E R hr => ⟨_, (pdss_cons (pds_if (pdt_val (pde_callH q1_mono h_is_integer hr (pda_cons (pd_var 0) pda_nil))) (pdss_one (pds_ret (pde_str (pd_var 0) B.str))) pdss_nil) (pdss_one (pds_ret (pde_join (pde_frz (pdl_lcD (own := [("item", 1)]) rfl S__head.nd (pdi_list (pd_var 0)) (blkOk (N := ["part", "item"]) (sc := defScope (top 22)) rfl (by decide +kernel) (by decide +kernel) (by decide +kernel) (by decide +kernel)) (fun _ _ _ _ _ => (pdg_name 1 S__head.nd)) (fun _ _ _ _ _ => (pdts_one (pdt_val (pde_isi .str rfl (pd_var 1) B.isinstance B.str)))) (fun _ _ _ _ _ => (pd_var 1)))))))), ?_⟩
  rintro ds W ⟨t, rfl, ⟨k0, wt⟩, h⟩
  rcases enc_cases t with ⟨i, rfl⟩ | ⟨ds, e⟩
  · simp only [enc]
    walk_at "ds P9c"
    exact ⟨by have := wt.2; omega, h⟩
  · obtain ⟨l1, l2⟩ := headL_few wt
    have l3 := enc_few e wt
    have l4 := head_filt e
    rw [e]
    walk_at "ds P9c"
    refine ⟨okW_of, lcD_fm isStrD (fun d => d) _ _ (by show 0 + _ ≤ _; omega) ?_ ?_⟩
    · intro d hd Y Z hY hZ
      walk_at "ds P9c"
      cases d <;> first | exact hY rfl _ rfl | exact hZ rfl _ rfl
    · refine ⟨headL t, .inl ?_, ?_, ?_⟩
      · rw [List.nil_append, l4, List.map_map]
        rfl
      · have := sum_le l2
        have : (Str.ofString " ").length = 1 := rfl
        rw [this]
        omega
      · exact h
theorem pre_wf : ∀ {t : Tm} {k : Str}, wf k t → ∀ p ∈ pre t, ∃ k', wf k' p
  | .num i, k, h, p, hp => by rw [List.mem_singleton.mp hp]; exact ⟨k, h⟩
  | .nam w ns, k, h, p, hp => by rw [List.mem_singleton.mp hp]; exact ⟨k, h⟩
  | .one w a, k, h, p, hp => by
    rcases List.mem_cons.mp hp with e | e -- k09
    · rw [e]; exact ⟨k, h⟩
    · obtain ⟨ka, _, _, ha⟩ := h
      exact pre_wf ha p e
  | .two w a b, k, h, p, hp => by
    rcases List.mem_cons.mp hp with e | e -- k09
    · rw [e]; exact ⟨k, h⟩
    · obtain ⟨ka, kb, _, _, _, ha, hb⟩ := h
      rcases List.mem_append.mp e with e | e
      · exact pre_wf ha p e
      · exact pre_wf hb p e
  | .tri w a b c, k, h, p, hp => by
    rcases List.mem_cons.mp hp with e | e -- k09
    · rw [e]; exact ⟨k, h⟩
    · obtain ⟨ka, kb, kc, _, _, _, _, ha, hb, hc⟩ := h
      rcases List.mem_append.mp e with e | e
      · exact pre_wf ha p e
      · rcases List.mem_append.mp e with e | e
        · exact pre_wf hb p e
        · exact pre_wf hc p e
theorem J_len (z : Str) (xs : List Str) : (Txt.join z xs).length ≤ (xs.map (·.length)).sum + xs.length * z.length := by
  have h : (Txt.join z xs).length = (xs.map (·.length)).sum + (xs.length - 1) * z.length := PySem.size_glued z xs
  rw [h]
  exact Nat.add_le_add_left (Nat.mul_le_mul_right _ (Nat.sub_le _ _)) _
theorem headS_len {k : Str} {t : Tm} (h : wf k t) : (headS t).length ≤ 808 := by
  obtain ⟨a, b⟩ := headL_few h
  have h1 := J_len " " (headL t)
  have h2 := sum_le b
  have h3 : (Str.ofString " ").length = 1 := rfl
  rw [h3] at h1
  show (Txt.join " " (headL t)).length ≤ _
  omega
theorem S_expression_text : FnScope ["expression", "part"] ["expression"] (defScope (top 17)) := ⟨rfl, rfl, rfl, by decide +kernel, rfl, by decide +kernel, by decide +kernel⟩
theorem ok_expression_text (B : B0 mg) (F : Fun K "expression_text" "expression_text" (top 17) f fd) (h_plain_parts : Has P w K mg base "plain_parts" k ["expression"] (spP K (gS fun t => .list ((pre t).map enc)))) (h__head : Has P w K mg base "_head" k ["part"] (spP K (gH fun t => .str (headS t)))) :
    FnOk P w K mg base CX0 (k + 1) f fd ["expression"] (spP K (gS fun t => .str (textS t))) := by
  refine okP F S_expression_text gS_len gS_mono fun cdv A outer s H E R hr => ⟨_, (pdss_one (pds_ret (pde_join (pde_frz (pdl_lcD (own := [("part", 1)]) rfl S_expression_text.nd (pdi_list (pde_callH gS_mono h_plain_parts hr (pda_cons (pd_var 0) pda_nil))) (blkOk (N := ["expression", "part"]) (sc := defScope (top 17)) rfl (by decide +kernel) (by decide +kernel) (by decide +kernel) (by decide +kernel)) (fun _ _ _ _ _ => (pdg_name 1 S_expression_text.nd)) (fun _ _ _ _ _ => pdts_nil) (fun _ _ _ _ _ => (pde_callH gH_mono h__head hr (pda_cons (pd_var 1) pda_nil)))))))), ?_⟩
  rintro ds W ⟨t, rfl, gt, h⟩
  obtain ⟨k0, wt, hk, hs⟩ := gt
  walk_at "ds P9c"
  refine ⟨t, rfl, ⟨k0, wt, hk, hs⟩, okW_of, lcD_mapA enc (fun p => .str (headS p)) _ _ ?_ ?_ ?_⟩
  · rw [pre_len]; show 0 + _ ≤ _; omega
  · intro p hp Y Z hY
    walk_at "ds P9c"
    exact ⟨p, rfl, pre_wf wt p hp, hY _ rfl⟩
  · refine ⟨(pre t).map headS, .inl ?_, ?_, ?_⟩
    · rw [List.nil_append, List.map_map]
      rfl
    · have h1 : (((pre t).map headS).map (·.length)).sum ≤ ((pre t).map headS).length * 808 := sum_le fun x hx => by
        obtain ⟨p, hp, rfl⟩ := List.mem_map.mp hx
        obtain ⟨k', wp⟩ := pre_wf wt p hp
        exact headS_len wp
      rw [List.length_map, pre_len] at h1
      rw [List.length_map, pre_len]
      have h3 : (Str.ofString " ").length = 1 := rfl
      rw [h3]
      omega
    · have e := text_pre t
      unfold J at e
      rw [e]
      exact h
end
end T9

set_option Elab.async false
set_option linter.all false
set_option maxRecDepth 100000
namespace T9
open PySem PySem.Spec PyProof.Rows L2 DL
theorem ty_enc (t : Tm) : isTy .str (enc t) = false := by cases t <;> rfl
local macro_rules | `(tactic| walk_at "ds P9d") => `(tactic| simp only [↓ty_enc, ↓dSeq, ↓dIfS, ↓dRet, ↓dRetN, ↓dAsg, ↓dAsgO, ↓dSet_eq, ↓sc_n, ↓sc_d, ↓sc_o, ↓sc_y, ↓dDrop, ↓dAsgG, ↓dgTup, ↓dgCons, ↓dgName, ↓dgNil, ↓dNext, ↓dBreak, ↓dCont, ↓dVar, ↓dC, ↓dOp, ↓dTest, ↓dAnd, ↓dOr, ↓dNot, ↓dAndV, ↓dOrV, ↓dNotV, ↓dIf, ↓dIfL, ↓dNil, ↓dCons, ↓dTup, ↓dLst, ↓dFrz, ↓dCall, ↓dCallP, ↓dCallF, ↓dCallN, ↓dSeqOf, ↓dRange1, ↓dRange2, ↓dEnum, ↓dZip, ↓dForD, ↓forD, ↓dLcD, ↓dYes, ↓dAppend, ↓dPop, ↓dExtend, ↓dSetItem, ↓dTruO, ↓bInt, ↓bAdd, ↓dNeg, ↓bEq, ↓bNe, ↓bIs, ↓bIsNot, ↓bLt, ↓bLe, ↓bGt, ↓bGe, ↓bOrd, ↓dChain, ↓bIn, ↓bIx, ↓dIxO, ↓dLenO, ↓dNo, ↓dYesO, ↓dSlice, ↓SlD, ↓dIsi, ↓dIsi2, ↓cLen, ↓cAll, ↓cStr, ↓cInt, ↓cTuple, ↓dListOf, ↓dCat, ↓dJoin, ↓dFmt, ↓dJs, ↓dJoined, ↓dGetT, ↓dInT, ↓dRev1, ↓bRep, ↓q1_at, ↓q2_at, ↓q3_at, ↓popex, ↓atx0, ↓atx1, ↓atx2, ↓atx3, ↓reduceIte,
  wipeD, backD, isInt, cast_succ_ne, at0, at1, at2, at3, ex_some, cut1, eqvS, eqvI, shS, shI, flatD, popget, emp_app, down0, down1, down2, down3, List.dropLast_concat, List.all_cons, List.all_nil, Bool.and_true, decide_eq_true_eq, isTy, isNone, startD, startF, List.map_cons, List.map_nil, List.length_cons, List.length_nil, List.nil_append, List.cons_append, List.replicate, List.getElem?_cons_zero, List.getElem?_cons_succ, List.getElem?_nil, List.set_cons_zero, List.set_cons_succ, List.set_nil, Nat.zero_add, Nat.reduceAdd, Nat.reduceSub, Nat.reduceLT, Nat.reduceLeDiff, Int.reduceAdd, Int.reduceSub, Int.toNat_natCast, if_true, if_false, ite_true, ite_false, Bool.false_eq_true, Bool.not_true, Bool.not_false, Bool.true_eq_false, true_and, and_true, Nat.sub_self, Nat.sub_zero, Nat.reduceMul, List.replicate_zero, List.append_nil])
def hgt : Tm → Nat
  | .num _ => 0
  | .nam _ _ => 0
  | .one _ a => hgt a + 1
  | .two _ a b => max (hgt a) (hgt b) + 1
  | .tri _ a b c => max (hgt a) (max (hgt b) (hgt c)) + 1
def wdS (n : Nat) : NSpec := fun ds W => ∃ t, ds = [enc t] ∧ (∃ k, wf k t) ∧ siz t ≤ 2000 ∧ hgt t < n ∧ W ((wordsL t).map .str)
theorem wdS_mono {n} : MonoN (wdS n) := fun ds W W' m ⟨t, e, a, b, c, h⟩ => ⟨t, e, a, b, c, m _ h⟩
theorem S__law_words : FnScope ["_law_item", "_law_found", "_law_part"] ["_law_item"] (defScope (top 31)) := ⟨rfl, rfl, rfl, by decide +kernel, rfl, by decide +kernel, by decide +kernel⟩
theorem words_len : ∀ {t : Tm} {k : Str}, wf k t → (wordsL t).length ≤ 4 * siz t
  | .num i, k, h => by show 1 ≤ 4 * 1; omega
  | .nam w ns, k, h => by
    have := (wf_nam h).1
    show ns.length + 1 ≤ 4 * 1
    omega
  | .one w a, k, h => by
    obtain ⟨ka, _, _, ha⟩ := h
    have := words_len ha
    show (wordsL a).length + 1 ≤ 4 * (siz a + 1)
    omega
  | .two w a b, k, h => by
    obtain ⟨ka, kb, _, _, _, ha, hb⟩ := h
    have := words_len ha
    have := words_len hb
    show (wordsL a ++ wordsL b).length + 1 ≤ 4 * (siz a + siz b + 1)
    rw [List.length_append]
    omega
  | .tri w a b c, k, h => by
    obtain ⟨ka, kb, kc, _, _, _, _, ha, hb, hc⟩ := h
    have := words_len ha
    have := words_len hb
    have := words_len hc
    show (wordsL a ++ (wordsL b ++ wordsL c)).length + 1 ≤ 4 * (siz a + siz b + siz c + 1)
    rw [List.length_append, List.length_append]
    omega
section
variable {P : Program} {w : World} {K : PySem.W.Frag} {mg : Str → Option Value} {base : Heap} {k : Nat} {f : Addr} {fd : FuncData}
theorem ok__law_words {n : Nat} (B : B0 mg) (F : Fun K "_law_words" "_law_words" (top 31) f fd) (h__law_words : Has P w K mg base "_law_words" n ["_law_item"] (spN K (wdS n))) : FnOk P w K mg base CX0 (n + 1) f fd ["_law_item"] (spN K (wdS (n + 1))) := by
  refine okN F S__law_words (fun ds Q ⟨t, e, _⟩ => by rw [e]; rfl) fun cdv A outer s H E R hr => ⟨_, (pdn_if (pdt_not (pdt_val (pde_isi .tuple rfl (pd_var 0) B.isinstance B.tuple))) (pdn_ret (pdl_lst (pda_cons (pde_str (pd_var 0) B.str) pda_nil))) (pdn_cons (pds_setO (i := 1) S__law_words.nd (pdl_lst (pda_cons (pde_ix (pd_var 0) pd_int) pda_nil))) (pdn_cons (pds_forD PassesOwn.never rfl (pdi_list (pde_slice (pd_var 0) (pdo_some pd_int) pdo_none)) (pdg_name 2 S__law_words.nd) (pdss_one (pds_extend 1 (pdl_if (pdt_val (pde_isi .str rfl (pd_var 2) B.isinstance B.str)) (pdl_lst (pda_cons (pd_var 2) pda_nil)) (pdl_callH wdS_mono h__law_words hr (pda_cons (pd_var 2) pda_nil)))))) (pdn_own 1)))), ?_⟩
  rintro ds W ⟨t, rfl, ⟨k0, wt⟩, hs, hh, h⟩
  cases t with
  | num i =>
    simp only [enc]
    walk_at "ds P9d"
    exact ⟨by have := wt.2; omega, h⟩
  | one w1 a1 =>
    obtain ⟨ka, hT, na, wa⟩ := wt
    have l1 := words_len wa
    simp only [siz, hgt] at hs hh
    simp only [enc]
    walk_at "ds P9d"
    refine ⟨a1, rfl, ⟨ka, wa⟩, by omega, by omega, ?_⟩
    refine ⟨by rw [List.length_map]; omega, ?_⟩
    exact h
  | two w1 a1 b1 =>
    obtain ⟨ka, kb, hT, na, nb, wa, wb⟩ := wt
    have l1 := words_len wa
    have l2 := words_len wb
    simp only [siz, hgt] at hs hh
    simp only [enc]
    walk_at "ds P9d"
    refine ⟨a1, rfl, ⟨ka, wa⟩, by omega, by omega, by rw [List.length_map]; omega, ?_⟩
    refine ⟨b1, rfl, ⟨kb, wb⟩, by omega, by omega, ?_⟩
    refine ⟨by simp only [List.length_cons, List.length_append, List.length_map]; omega, ?_⟩
    simp only [wordsL, List.map_cons, List.map_append] at h
    exact h
  | tri w1 a1 b1 c1 =>
    obtain ⟨ka, kb, kc, hT, na, nb, nc, wa, wb, wc⟩ := wt
    have l1 := words_len wa
    have l2 := words_len wb
    have l3 := words_len wc
    simp only [siz, hgt] at hs hh
    simp only [enc]
    walk_at "ds P9d"
    refine ⟨a1, rfl, ⟨ka, wa⟩, by omega, by omega, by rw [List.length_map]; omega, ?_⟩
    refine ⟨b1, rfl, ⟨kb, wb⟩, by omega, by omega, by simp only [List.length_cons, List.length_append, List.length_map]; omega, ?_⟩
    refine ⟨c1, rfl, ⟨kc, wc⟩, by omega, by omega, by simp only [List.length_cons, List.length_append, List.length_map]; omega, ?_⟩
    simp only [wordsL, List.map_cons, List.map_append, ← List.append_assoc] at h
    exact h
  | nam w1 ns =>
    obtain ⟨l1, l2, l3⟩ := wf_nam wt
    simp only [enc]
    rcases ns with _ | ⟨n1, _ | ⟨n2, _ | ⟨n3, _ | ⟨n4, r⟩⟩⟩⟩
    · walk_at "ds P9d"
      exact h
    · walk_at "ds P9d"
      exact h
    · walk_at "ds P9d"
      exact h
    · walk_at "ds P9d"
      exact h
    · exact absurd l1 (by simp)
theorem all_words (B : B0 mg) (F : Fun K "_law_words" "_law_words" (top 31) f fd) (bF : Binds K fd ["_law_item"] []) (mF : mg "_law_words" = some (.ref f)) : ∀ n : Nat, Has P w K mg base "_law_words" n ["_law_item"] (spN K (wdS n))
  | 0 => ⟨f, fd, ⟨fun vs H Q E ⟨D, ds, _, _, t, _, _, _, h, _⟩ => absurd h (Nat.not_lt_zero _), fun A outer s H args us vs Q E _ _ _ _ ⟨D, ds, _, _, t, _, _, _, h, _⟩ => absurd h (Nat.not_lt_zero _)⟩, mF, F.kp, bF⟩
  | n + 1 => ⟨f, fd, ok__law_words B F (all_words B F bF mF n), mF, F.kp, bF⟩
end
end T9

set_option Elab.async false
set_option linter.all false
set_option maxRecDepth 100000
namespace T9
open PySem PySem.Spec PyProof.Rows L2 DL
local macro_rules | `(tactic| walk_at "ds P9e") => `(tactic| simp only [↓dSeq, ↓dIfS, ↓dRet, ↓dRetN, ↓dAsg, ↓dAsgO, ↓dSet_eq, ↓sc_n, ↓sc_d, ↓sc_o, ↓sc_y, ↓dDrop, ↓dAsgG, ↓dgTup, ↓dgCons, ↓dgName, ↓dgNil, ↓dNext, ↓dBreak, ↓dCont, ↓dVar, ↓dC, ↓dOp, ↓dTest, ↓dAnd, ↓dOr, ↓dNot, ↓dAndV, ↓dOrV, ↓dNotV, ↓dIf, ↓dIfL, ↓dNil, ↓dCons, ↓dTup, ↓dLst, ↓dFrz, ↓dCall, ↓dCallP, ↓dCallF, ↓dCallN, ↓dSeqOf, ↓dRange1, ↓dRange2, ↓dEnum, ↓dZip, ↓dForD, ↓forD, ↓dLcD, ↓dYes, ↓dAppend, ↓dPop, ↓dExtend, ↓dSetItem, ↓dTruO, ↓bInt, ↓bAdd, ↓dNeg, ↓bEq, ↓bNe, ↓bIs, ↓bIsNot, ↓bLt, ↓bLe, ↓bGt, ↓bGe, ↓bOrd, ↓dChain, ↓bIn, ↓bIx, ↓dIxO, ↓dLenO, ↓dNo, ↓dYesO, ↓dSlice, ↓SlD, ↓dIsi, ↓dIsi2, ↓cLen, ↓cAll, ↓cStr, ↓cInt, ↓cTuple, ↓dListOf, ↓dCat, ↓dJoin, ↓dFmt, ↓dJs, ↓dJoined, ↓dGetT, ↓dInT, ↓dRev1, ↓bRep, ↓q1_at, ↓q2_at, ↓q3_at, ↓popex, ↓atx0, ↓atx1, ↓atx2, ↓atx3, ↓reduceIte,
  wipeD, backD, isInt, cast_succ_ne, at0, at1, at2, at3, ex_some, cut1, eqvS, eqvI, shS, shI, flatD, popget, emp_app, down0, down1, down2, down3, List.dropLast_concat, List.all_cons, List.all_nil, Bool.and_true, decide_eq_true_eq, isTy, isNone, startD, startF, List.map_cons, List.map_nil, List.length_cons, List.length_nil, List.nil_append, List.cons_append, List.replicate, List.getElem?_cons_zero, List.getElem?_cons_succ, List.getElem?_nil, List.set_cons_zero, List.set_cons_succ, List.set_nil, Nat.zero_add, Nat.reduceAdd, Nat.reduceSub, Nat.reduceLT, Nat.reduceLeDiff, Int.reduceAdd, Int.reduceSub, Int.toNat_natCast, if_true, if_false, ite_true, ite_false, Bool.false_eq_true, Bool.not_true, Bool.not_false, Bool.true_eq_false, true_and, and_true, Nat.sub_self, Nat.sub_zero, Nat.reduceMul, List.replicate_zero, List.append_nil])

abbrev tS (i : Int) : Str := Str.ofString (toString i)
def intS (r : List Int) : Str := Txt.join "," (r.map tS)
def worldS (rows : List (List Int)) : Str := Txt.join " " (rows.map intS)
def encR (r : List Int) : PyData := .tuple (r.map .int)
def encW (rows : List (List Int)) : PyData := .tuple (rows.map encR)
def okI (i : Int) : Prop := i.natAbs.log2 < 200
def okR (r : List Int) : Prop := r.length ≤ 50 ∧ ∀ i ∈ r, okI i
def okW' (rows : List (List Int)) : Prop := rows.length ≤ 50 ∧ ∀ r ∈ rows, okR r
def rS : PSpec := fun ds W => ∃ r, ds = [encR r] ∧ okR r ∧ W (.str (intS r))
def wS : PSpec := fun ds W => ∃ r, ds = [encW r] ∧ okW' r ∧ W (.str (worldS r))
theorem rS_mono : MonoP rS := fun ds W W' m ⟨t, e, g, h⟩ => ⟨t, e, g, m _ h⟩
theorem wS_mono : MonoP wS := fun ds W W' m ⟨t, e, g, h⟩ => ⟨t, e, g, m _ h⟩
theorem rS_len : ∀ ds Q, rS ds Q → ds.length = 1 := fun ds Q ⟨t, e, _⟩ => by rw [e]; rfl
theorem wS_len : ∀ ds Q, wS ds Q → ds.length = 1 := fun ds Q ⟨t, e, _⟩ => by rw [e]; rfl
theorem tS_len {i : Int} (h : okI i) : (tS i).length ≤ 201 := tlen h
theorem intS_sum {r : List Int} (h : okR r) : ((r.map tS).map (·.length)).sum + (r.map tS).length * (Str.ofString ",").length ≤ 10100 := by
  have h1 : ((r.map tS).map (·.length)).sum ≤ (r.map tS).length * 201 := sum_le fun x hx => by
    obtain ⟨i, hi, rfl⟩ := List.mem_map.mp hx
    exact tS_len (h.2 i hi)
  have h2 := h.1
  have h3 : (Str.ofString ",").length = 1 := rfl
  rw [List.length_map] at h1 ⊢
  rw [h3]
  omega
theorem intS_len {r : List Int} (h : okR r) : (intS r).length ≤ 10100 := Nat.le_trans (J_len _ _) (intS_sum h)
theorem worldS_sum {r : List (List Int)} (h : okW' r) : ((r.map intS).map (·.length)).sum + (r.map intS).length * (Str.ofString " ").length ≤ 16777216 := by
  have h1 : ((r.map intS).map (·.length)).sum ≤ (r.map intS).length * 10100 := sum_le fun x hx => by
    obtain ⟨i, hi, rfl⟩ := List.mem_map.mp hx
    exact intS_len (h.2 i hi)
  have h2 := h.1
  have h3 : (Str.ofString " ").length = 1 := rfl
  rw [List.length_map] at h1 ⊢
  rw [h3]
  omega
theorem map_str {α : Type} (f : α → Str) (l : List α) : l.map (fun x => PyData.str (f x)) = (l.map f).map PyData.str := by rw [List.map_map]; rfl
section
variable {P : Program} {w : World} {K : PySem.W.Frag} {mg : Str → Option Value} {base : Heap} {k : Nat} {f : Addr} {fd : FuncData}
theorem S_integers_text : FnScope ["row", "number"] ["row"] (defScope (top 21)) := ⟨rfl, rfl, rfl, by decide +kernel, rfl, by decide +kernel, by decide +kernel⟩
theorem S_world_text : FnScope ["world", "row"] ["world"] (defScope (top 19)) := ⟨rfl, rfl, rfl, by decide +kernel, rfl, by decide +kernel, by decide +kernel⟩
theorem S__law_world_text : FnScope ["_law_stand", "_law_row", "_law_number_here"] ["_law_stand"] (defScope (top 33)) := ⟨rfl, rfl, rfl, by decide +kernel, rfl, by decide +kernel, by decide +kernel⟩
theorem ok_integers_text (B : B0 mg) (F : Fun K "integers_text" "integers_text" (top 21) f fd) : FnOk P w K mg base CX0 (k + 1) f fd ["row"] (spP K rS) := by
  refine okP F S_integers_text rS_len rS_mono fun cdv A outer s H E R hr => ⟨_, (pdss_one (pds_ret (pde_join (pde_frz (pdl_lcD (own := [("number", 1)]) rfl S_integers_text.nd (pdi_list (pd_var 0)) (blkOk (N := ["row", "number"]) (sc := defScope (top 21)) rfl (by decide +kernel) (by decide +kernel) (by decide +kernel) (by decide +kernel)) (fun _ _ _ _ _ => (pdg_name 1 S_integers_text.nd)) (fun _ _ _ _ _ => pdts_nil) (fun _ _ _ _ _ => (pde_str (pd_var 1) B.str))))))), ?_⟩
  rintro ds W ⟨r, rfl, hr, h⟩
  unfold encR
  walk_at "ds P9e"
  refine ⟨okW_of, lcD_mapA PyData.int (fun i => .str (tS i)) _ _ ?_ ?_ ?_⟩
  · have := hr.1; show 0 + _ ≤ _; omega
  · intro i hi Y Z hY
    walk_at "ds P9e"
    have : i.natAbs.log2 < 200 := hr.2 i hi
    exact ⟨by omega, hY _ rfl⟩
  · refine ⟨r.map tS, .inl ?_, ?_, h⟩
    · rw [List.nil_append, map_str]
    · have := intS_sum hr; omega
theorem ok_world_text (B : B0 mg) (F : Fun K "world_text" "world_text" (top 19) f fd) (h_integers_text : Has P w K mg base "integers_text" k ["row"] (spP K rS)) : FnOk P w K mg base CX0 (k + 1) f fd ["world"] (spP K wS) := by
  refine okP F S_world_text wS_len wS_mono fun cdv A outer s H E R hr => ⟨_, (pdss_one (pds_ret (pde_join (pde_frz (pdl_lcD (own := [("row", 1)]) rfl S_world_text.nd (pdi_list (pd_var 0)) (blkOk (N := ["world", "row"]) (sc := defScope (top 19)) rfl (by decide +kernel) (by decide +kernel) (by decide +kernel) (by decide +kernel)) (fun _ _ _ _ _ => (pdg_name 1 S_world_text.nd)) (fun _ _ _ _ _ => pdts_nil) (fun _ _ _ _ _ => (pde_callH rS_mono h_integers_text hr (pda_cons (pd_var 1) pda_nil)))))))), ?_⟩
  rintro ds W ⟨r, rfl, hr, h⟩
  unfold encW
  walk_at "ds P9e"
  refine ⟨okW_of, lcD_mapA encR (fun i => .str (intS i)) _ _ ?_ ?_ ?_⟩
  · have := hr.1; show 0 + _ ≤ _; omega
  · intro i hi Y Z hY
    walk_at "ds P9e"
    exact ⟨i, rfl, hr.2 i hi, hY _ rfl⟩
  · refine ⟨r.map intS, .inl ?_, worldS_sum hr, h⟩
    rw [List.nil_append, map_str]
theorem ok__law_world_text (B : B0 mg) (F : Fun K "_law_world_text" "_law_world_text" (top 33) f fd) : FnOk P w K mg base CX0 (k + 1) f fd ["_law_stand"] (spP K wS) := by
  refine okP F S__law_world_text wS_len wS_mono fun cdv A outer s H E R hr => ⟨_, (pdss_one (pds_ret (pde_join (pde_frz (pdl_lcD (own := [("_law_row", 1)]) rfl S__law_world_text.nd (pdi_list (pd_var 0)) (blkOk (N := ["_law_stand", "_law_row", "_law_number_here"]) (sc := defScope (top 33)) rfl (by decide +kernel) (by decide +kernel) (by decide +kernel) (by decide +kernel)) (fun _ _ _ _ _ => (pdg_name 1 S__law_world_text.nd)) (fun _ _ _ _ _ => pdts_nil) (fun _ _ _ _ _ => (pde_join (pde_frz (pdl_lcD (own := [("_law_number_here", 2)]) rfl S__law_world_text.nd (pdi_list (pd_var 1)) (blkOk0 (N := ["_law_stand", "_law_row", "_law_number_here"]) rfl (by decide +kernel) (by decide +kernel) (by decide +kernel) (by decide +kernel)) (fun _ _ _ _ _ => (pdg_name 2 S__law_world_text.nd)) (fun _ _ _ _ _ => pdts_nil) (fun _ _ _ _ _ => (pde_str (pd_var 2) B.str))))))))))), ?_⟩
  rintro ds W ⟨r, rfl, hr, h⟩
  unfold encW
  walk_at "ds P9e"
  refine ⟨okW_of, lcD_mapA encR (fun i => .str (intS i)) _ _ ?_ ?_ ?_⟩
  · have := hr.1; show 0 + _ ≤ _; omega
  · intro r1 hi Y Z hY
    have h1 := hr.2 r1 hi
    unfold encR at hY ⊢
    walk_at "ds P9e"
    refine ⟨okW_of, lcD_mapA PyData.int (fun i => .str (tS i)) _ _ ?_ ?_ ?_⟩
    · have := h1.1; show 0 + _ ≤ _; omega
    · intro i hi Y Z hY
      walk_at "ds P9e"
      have : i.natAbs.log2 < 200 := h1.2 i hi
      exact ⟨by omega, hY _ rfl⟩
    · refine ⟨r1.map tS, .inl ?_, ?_, hY _ rfl⟩
      · rw [List.nil_append, map_str]
      · have := intS_sum h1; omega
  · refine ⟨r.map intS, .inl ?_, worldS_sum hr, h⟩
    rw [List.nil_append, map_str]
end
end T9

set_option Elab.async false
set_option linter.all false
set_option maxRecDepth 100000
namespace T9
open PySem PySem.Spec PyProof.Rows L2 DL
local macro_rules | `(tactic| walk_at "ds P9f") => `(tactic| simp only [↓dSeq, ↓dIfS, ↓dRet, ↓dRetN, ↓dAsg, ↓dAsgO, ↓dSet_eq, ↓sc_n, ↓sc_d, ↓sc_o, ↓sc_y, ↓dDrop, ↓dAsgG, ↓dgTup, ↓dgCons, ↓dgName, ↓dgNil, ↓dNext, ↓dBreak, ↓dCont, ↓dVar, ↓dC, ↓dOp, ↓dTest, ↓dAnd, ↓dOr, ↓dNot, ↓dAndV, ↓dOrV, ↓dNotV, ↓dIf, ↓dIfL, ↓dNil, ↓dCons, ↓dTup, ↓dLst, ↓dFrz, ↓dCall, ↓dCallP, ↓dCallF, ↓dCallN, ↓dSeqOf, ↓dRange1, ↓dRange2, ↓dEnum, ↓dZip, ↓dForD, ↓forD, ↓dLcD, ↓dYes, ↓dAppend, ↓dPop, ↓dExtend, ↓dSetItem, ↓dTruO, ↓bInt, ↓bAdd, ↓dNeg, ↓bEq, ↓bNe, ↓bIs, ↓bIsNot, ↓bLt, ↓bLe, ↓bGt, ↓bGe, ↓bOrd, ↓dChain, ↓bIn, ↓bIx, ↓dIxO, ↓dLenO, ↓dNo, ↓dYesO, ↓dSlice, ↓SlD, ↓dIsi, ↓dIsi2, ↓cLen, ↓cAll, ↓cStr, ↓cInt, ↓cTuple, ↓dListOf, ↓dCat, ↓dJoin, ↓dFmt, ↓dJs, ↓dJoined, ↓dGetT, ↓dInT, ↓dRev1, ↓bRep, ↓q1_at, ↓q2_at, ↓q3_at, ↓popex, ↓atx0, ↓atx1, ↓atx2, ↓atx3, ↓reduceIte,
  wipeD, backD, isInt, cast_succ_ne, at0, at1, at2, at3, ex_some, cut1, eqvS, eqvI, shS, shI, flatD, popget, emp_app, down0, down1, down2, down3, List.dropLast_concat, List.all_cons, List.all_nil, Bool.and_true, decide_eq_true_eq, isTy, isNone, startD, startF, List.map_cons, List.map_nil, List.length_cons, List.length_nil, List.nil_append, List.cons_append, List.replicate, List.getElem?_cons_zero, List.getElem?_cons_succ, List.getElem?_nil, List.set_cons_zero, List.set_cons_succ, List.set_nil, Nat.zero_add, Nat.reduceAdd, Nat.reduceSub, Nat.reduceLT, Nat.reduceLeDiff, Int.reduceAdd, Int.reduceSub, Int.toNat_natCast, if_true, if_false, ite_true, ite_false, Bool.false_eq_true, Bool.not_true, Bool.not_false, Bool.true_eq_false, true_and, and_true, Nat.sub_self, Nat.sub_zero, Nat.reduceMul, List.replicate_zero, List.append_nil])

structure Hs where
  people : List Str
  fields : List (Str × Int × Int)
  rules : List Tm
def encF (x : Str × Int × Int) : PyData := .tuple [.str x.1, .int x.2.1, .int x.2.2]
def encH (h : Hs) : PyData := .tuple [.tuple (h.people.map .str), .tuple (h.fields.map encF), .tuple (h.rules.map enc)]
structure okH (h : Hs) : Prop where
  p : h.people.length ≤ 50
  pn : ∀ p ∈ h.people, nm50 p
  f : h.fields.length ≤ 50
  fn : ∀ x ∈ h.fields, nm50 x.1 ∧ okI x.2.1 ∧ okI x.2.2
  r : h.rules.length ≤ 12
  rn : ∀ t ∈ h.rules, (∃ k, wf k t ∧ (k = "number" ∨ k = "condition")) ∧ siz t ≤ 100 ∧ hgt t < 50
def lineF (x : Str × Int × Int) : Str := "field " ++ x.1 ++ " " ++ tS x.2.1 ++ " " ++ tS x.2.2
def lineP (ps : List Str) : Str := "people " ++ Txt.join "," ps
def lineR (t : Tm) : Str := "rule " ++ textS t
def linesH (h : Hs) : List Str := lineP h.people :: (h.fields.map lineF ++ h.rules.map lineR)
def houseS (h : Hs) : Str := Txt.join "\n" (linesH h)
def hS (r : Hs → PyData) : PSpec := fun ds W => ∃ h, ds = [encH h] ∧ okH h ∧ W (r h)
theorem hS_mono {r} : MonoP (hS r) := fun ds W W' m ⟨t, e, g, h⟩ => ⟨t, e, g, m _ h⟩
theorem hS_len {r} : ∀ ds Q, hS r ds Q → ds.length = 1 := fun ds Q ⟨t, e, _⟩ => by rw [e]; rfl
theorem textS_len {k : Str} {t : Tm} (h : wf k t) (hs : siz t ≤ 100) : (textS t).length ≤ 80900 := by
  have e := text_pre t
  rw [← e]
  have h1 := J_len " " ((pre t).map headS)
  have h2 : (((pre t).map headS).map (·.length)).sum ≤ ((pre t).map headS).length * 808 := sum_le fun x hx => by
    obtain ⟨p, hp, rfl⟩ := List.mem_map.mp hx
    obtain ⟨k', wp⟩ := pre_wf h p hp
    exact headS_len wp
  rw [List.length_map, pre_len] at h1 h2
  have h3 : (Str.ofString " ").length = 1 := rfl
  rw [h3] at h1
  show (Txt.join " " _).length ≤ _
  omega
theorem words_each {k : Str} {t : Tm} (h : wf k t) : ∀ x ∈ wordsL t, x.length ≤ 201 := fun x hx => by
  rw [words_pre] at hx
  obtain ⟨p, hp, hx⟩ := List.mem_flatMap.mp hx
  obtain ⟨k', wp⟩ := pre_wf h p hp
  exact (headL_few wp).2 x hx
theorem lineF_len {x : Str × Int × Int} (h : nm50 x.1 ∧ okI x.2.1 ∧ okI x.2.2) : (lineF x).length ≤ 460 := by
  have h0 := h.1.1
  have h1 := tS_len h.2.1
  have h2 := tS_len h.2.2
  have e1 : (Str.ofString " ").length = 1 := rfl
  have e2 : (Str.ofString "field ").length = 6 := rfl
  unfold lineF
  simp only [Str.length_append, e1, e2]
  omega
theorem comma_len {ps : List Str} (h : ps.length ≤ 50) (hn : ∀ p ∈ ps, p.length ≤ 50) : (ps.map (·.length)).sum + ps.length * (Str.ofString ",").length ≤ 2550 := by
  have h1 := sum_le hn
  have e1 : (Str.ofString ",").length = 1 := rfl
  rw [e1]
  have : ps.length * 50 ≤ 50 * 50 := Nat.mul_le_mul_right _ h
  omega
theorem lineP_len {ps : List Str} (h : ps.length ≤ 50) (hn : ∀ p ∈ ps, p.length ≤ 50) : (lineP ps).length ≤ 4000 := by
  have h1 := comma_len h hn
  have h2 := J_len "," ps
  have e2 : (Str.ofString "people ").length = 7 := rfl
  unfold lineP
  rw [Str.length_append, e2]
  omega
theorem lineR_len {k : Str} {t : Tm} (h : wf k t) (hs : siz t ≤ 100) : (lineR t).length ≤ 80905 := by
  have h1 := textS_len h hs
  have e2 : (Str.ofString "rule ").length = 5 := rfl
  unfold lineR
  rw [Str.length_append, e2]
  omega
theorem lines_sum {h : Hs} (o : okH h) : ((linesH h).map (·.length)).sum + (linesH h).length * (Str.ofString "\n").length ≤ 1000000 := by
  have e1 : (Str.ofString "\n").length = 1 := rfl
  have h1 : ((h.fields.map lineF).map (·.length)).sum ≤ (h.fields.map lineF).length * 460 := sum_le fun x hx => by
    obtain ⟨i, hi, rfl⟩ := List.mem_map.mp hx
    exact lineF_len (o.fn i hi)
  have h2 : ((h.rules.map lineR).map (·.length)).sum ≤ (h.rules.map lineR).length * 80905 := sum_le fun x hx => by
    obtain ⟨i, hi, rfl⟩ := List.mem_map.mp hx
    obtain ⟨⟨k, wk, _⟩, hs, _⟩ := o.rn i hi
    exact lineR_len wk hs
  have h3 := lineP_len o.p fun p hp => (o.pn p hp).1
  have h4 := o.f
  have h5 := o.r
  unfold linesH
  rw [e1]
  simp only [List.map_cons, List.map_append, List.sum_cons, List.sum_append, List.length_cons, List.length_append, List.length_map] at h1 h2 ⊢
  omega
section
variable {P : Program} {w : World} {K : PySem.W.Frag} {mg : Str → Option Value} {base : Heap} {k : Nat} {f : Addr} {fd : FuncData}
theorem S_house_lines : FnScope ["house", "people", "fields", "rules", "lines", "name", "low", "high", "rule"] ["house"] (defScope (top 20)) := ⟨rfl, rfl, rfl, by decide +kernel, rfl, by decide +kernel, by decide +kernel⟩
theorem S_house_text : FnScope ["house"] ["house"] (defScope (top 18)) := ⟨rfl, rfl, rfl, by decide +kernel, rfl, by decide +kernel, by decide +kernel⟩
theorem S__law_house_text : FnScope ["_law_home", "_law_rows", "_law_slot", "_law_low", "_law_high", "_law_item"] ["_law_home"] (defScope (top 32)) := ⟨rfl, rfl, rfl, by decide +kernel, rfl, by decide +kernel, by decide +kernel⟩
theorem ok_house_lines (B : B0 mg) (F : Fun K "house_lines" "house_lines" (top 20) f fd) (h_expression_text : Has P w K mg base "expression_text" k ["expression"] (spP K (gS fun t => .str (textS t)))) : FnOk P w K mg base CX0 (k + 1) f fd ["house"] (spP K (hS fun h => .list ((linesH h).map .str))) := by
  refine okP F S_house_lines hS_len hS_mono fun cdv A outer s H E R hr => ⟨_, (pdss_cons (pds_asg (pd_var 0) (pdg_tup (n := 3) rfl (pdgs_cons (pdg_name 1 S_house_lines.nd) (pdgs_cons (pdg_name 2 S_house_lines.nd) (pdgs_cons (pdg_name 3 S_house_lines.nd) pdgs_nil))))) (pdss_cons (pds_setO (i := 4) S_house_lines.nd (pdl_lst (pda_cons (pde_joined (PDJ.cons pd_str (PDJ.cons (pde_fmt (pde_join (pd_var 1))) PDJ.nil))) pda_nil))) (pdss_cons (pds_extend 4 (pdl_lcD (own := [("name", 5), ("low", 6), ("high", 7)]) rfl S_house_lines.nd (pdi_list (pd_var 2)) (blkOk (N := ["house", "people", "fields", "rules", "lines", "name", "low", "high", "rule"]) (sc := defScope (top 20)) rfl (by decide +kernel) (by decide +kernel) (by decide +kernel) (by decide +kernel)) (fun _ _ _ _ _ => (pdg_tup (n := 3) rfl (pdgs_cons (pdg_name 5 S_house_lines.nd) (pdgs_cons (pdg_name 6 S_house_lines.nd) (pdgs_cons (pdg_name 7 S_house_lines.nd) pdgs_nil))))) (fun _ _ _ _ _ => pdts_nil) (fun _ _ _ _ _ => (pde_joined (PDJ.cons pd_str (PDJ.cons (pde_fmt (pd_var 5)) (PDJ.cons pd_str (PDJ.cons (pde_fmt (pd_var 6)) (PDJ.cons pd_str (PDJ.cons (pde_fmt (pd_var 7)) PDJ.nil)))))))))) (pdss_cons (pds_extend 4 (pdl_lcD (own := [("rule", 8)]) rfl S_house_lines.nd (pdi_list (pd_var 3)) (blkOk (N := ["house", "people", "fields", "rules", "lines", "name", "low", "high", "rule"]) (sc := defScope (top 20)) rfl (by decide +kernel) (by decide +kernel) (by decide +kernel) (by decide +kernel)) (fun _ _ _ _ _ => (pdg_name 8 S_house_lines.nd)) (fun _ _ _ _ _ => pdts_nil) (fun _ _ _ _ _ => (pde_joined (PDJ.cons pd_str (PDJ.cons (pde_fmt (pde_callH gS_mono h_expression_text hr (pda_cons (pd_var 8) pda_nil))) PDJ.nil)))))) (pdss_one (pds_ret (pd_var 4))))))), ?_⟩
  rintro ds W ⟨h, rfl, o, q⟩
  unfold encH
  walk_at "ds P9f"
  have c1 := comma_len o.p fun p hp => (o.pn p hp).1
  have c2 := J_len "," h.people
  have c3 := lineP_len o.p fun p hp => (o.pn p hp).1
  have e2 : (Str.ofString "people ").length = 7 := rfl
  refine ⟨by decide +kernel, h.people, .inr rfl, by omega, by omega, ?_, okW_of, lcD_mapA encF (fun x => .str (lineF x)) _ _ ?_ ?_ ?_⟩
  · rw [Str.empty_append, Str.length_append, e2]; omega
  · have := o.f; show 0 + _ ≤ _; omega
  · intro x hx Y Z hY
    obtain ⟨⟨n1, _⟩, i1, i2⟩ := o.fn x hx
    have n2 : (Str.ofString (toString x.2.1)).length ≤ 201 := tS_len i1
    have n3 : (Str.ofString (toString x.2.2)).length ≤ 201 := tS_len i2
    have i1 : x.2.1.natAbs.log2 < 200 := i1
    have i2 : x.2.2.natAbs.log2 < 200 := i2
    have e1 : (Str.ofString " ").length = 1 := rfl
    have e2 : (Str.ofString "field ").length = 6 := rfl
    unfold encF
    walk_at "ds P9f"
    simp only [Str.empty_append, Str.length_append, e1, e2]
    refine ⟨by omega, by omega, by omega, by omega, by omega, by omega, by omega, by omega, by omega, hY _ rfl⟩
  · walk_at "ds P9f"
    refine ⟨?_, okW_of, lcD_mapA enc (fun t => .str (lineR t)) _ _ ?_ ?_ ?_⟩
    · have := o.f
      rw [List.length_map]; omega
    · have := o.r; show 0 + _ ≤ _; omega
    · intro t ht Y Z hY
      obtain ⟨⟨k1, wk, hk⟩, hs, hh⟩ := o.rn t ht
      have l1 := textS_len wk hs
      have e2 : (Str.ofString "rule ").length = 5 := rfl
      walk_at "ds P9f"
      simp only [Str.empty_append, Str.length_append, e2]
      exact ⟨by omega, t, rfl, ⟨k1, wk, hk, by omega⟩, by omega, by omega, hY _ rfl⟩
    · walk_at "ds P9f"
      have := o.f
      have := o.r
      refine ⟨?_, ?_⟩
      · simp only [List.length_cons, List.length_append, List.length_map]; omega
      · rw [Str.empty_append, map_str lineF, map_str lineR]
        unfold linesH lineP at q
        simp only [List.map_cons, List.map_append] at q
        exact q
theorem ok_house_text (F : Fun K "house_text" "house_text" (top 18) f fd) (h_house_lines : Has P w K mg base "house_lines" k ["house"] (spP K (hS fun h => .list ((linesH h).map .str)))) : FnOk P w K mg base CX0 (k + 1) f fd ["house"] (spP K (hS fun h => .str (houseS h))) := by
  refine okP F S_house_text hS_len hS_mono fun cdv A outer s H E R hr => ⟨_, (pdss_one (pds_ret (pde_join (pde_callH hS_mono h_house_lines hr (pda_cons (pd_var 0) pda_nil))))), ?_⟩
  rintro ds W ⟨h, rfl, o, q⟩
  walk_at "ds P9f"
  exact ⟨h, rfl, o, linesH h, .inl rfl, Nat.le_trans (lines_sum o) (by decide), q⟩
theorem ok__law_house_text (B : B0 mg) (F : Fun K "_law_house_text" "_law_house_text" (top 32) f fd) (h__law_words : Has P w K mg base "_law_words" k ["_law_item"] (spN K (wdS 50))) : FnOk P w K mg base CX0 (k + 1) f fd ["_law_home"] (spP K (hS fun h => .str (houseS h))) := by
  refine okP F S__law_house_text hS_len hS_mono fun cdv A outer s H E R hr => ⟨_, (pdss_cons (pds_setLcD (i := 1) rfl S__law_house_text.nd rfl (own := [("_law_slot", 2), ("_law_low", 3), ("_law_high", 4)]) (pdi_list (pde_ix (pd_var 0) pd_int)) (blkOk (N := ["_law_home", "_law_rows", "_law_slot", "_law_low", "_law_high", "_law_item"]) (sc := defScope (top 32)) rfl (by decide +kernel) (by decide +kernel) (by decide +kernel) (by decide +kernel)) (fun _ _ _ _ _ => (pdg_tup (n := 3) rfl (pdgs_cons (pdg_name 2 S__law_house_text.nd) (pdgs_cons (pdg_name 3 S__law_house_text.nd) (pdgs_cons (pdg_name 4 S__law_house_text.nd) pdgs_nil))))) (fun _ _ _ _ _ => pdts_nil) (fun _ _ _ _ _ => (pde_add (pde_add (pde_add (pde_add (pde_add pd_str (pd_var 2)) pd_str) (pde_str (pd_var 3) B.str)) pd_str) (pde_str (pd_var 4) B.str)))) (pdss_cons (pds_set (i := 1) S__law_house_text.nd (pde_frz (pdl_cat (pde_frz (pdl_lst (pda_cons (pde_add pd_str (pde_join (pde_ix (pd_var 0) pd_int))) pda_nil))) (pd_var 1)))) (pdss_one (pds_ret (pde_join (pde_frz (pdl_cat (pd_var 1) (pde_frz (pdl_lcD (own := [("_law_item", 5)]) rfl S__law_house_text.nd (pdi_list (pde_ix (pd_var 0) pd_int)) (blkOk (N := ["_law_home", "_law_rows", "_law_slot", "_law_low", "_law_high", "_law_item"]) (sc := defScope (top 32)) rfl (by decide +kernel) (by decide +kernel) (by decide +kernel) (by decide +kernel)) (fun _ _ _ _ _ => (pdg_name 5 S__law_house_text.nd)) (fun _ _ _ _ _ => pdts_nil) (fun _ _ _ _ _ => (pde_add pd_str (pde_join (pde_frz (pdl_callH wdS_mono h__law_words hr (pda_cons (pd_var 5) pda_nil))))))))))))))), ?_⟩
  rintro ds W ⟨h, rfl, o, q⟩
  unfold encH
  walk_at "ds P9f"
  refine ⟨okW_of, lcD_mapA encF (fun x => .str (lineF x)) _ _ ?_ ?_ ?_⟩
  · have := o.f; show 0 + _ ≤ _; omega
  · intro x hx Y Z hY
    obtain ⟨⟨n1, _⟩, i1, i2⟩ := o.fn x hx
    have n2 : (Str.ofString (toString x.2.1)).length ≤ 201 := tS_len i1
    have n3 : (Str.ofString (toString x.2.2)).length ≤ 201 := tS_len i2
    have i1 : x.2.1.natAbs.log2 < 200 := i1
    have i2 : x.2.2.natAbs.log2 < 200 := i2
    have e1 : (Str.ofString " ").length = 1 := rfl
    have e2 : (Str.ofString "field ").length = 6 := rfl
    unfold encF
    walk_at "ds P9f"
    simp only [Str.length_append, e1, e2]
    exact ⟨by omega, by omega, by omega, by omega, by omega, by omega, by omega, hY _ rfl⟩
  · walk_at "ds P9f"
    have c1 := comma_len o.p fun p hp => (o.pn p hp).1
    have c2 := J_len "," h.people
    have c3 := lineP_len o.p fun p hp => (o.pn p hp).1
    have c4 := o.f
    have c5 := o.r
    have e2 : (Str.ofString "people ").length = 7 := rfl
    refine ⟨h.people, .inr rfl, by omega, by rw [e2]; omega, by rw [List.length_map]; omega, okW_of, lcD_mapA enc (fun t => .str (lineR t)) _ _ ?_ ?_ ?_⟩
    · show 0 + _ ≤ _; omega
    · intro t ht Y Z hY
      obtain ⟨⟨k1, wk, hk⟩, hs, hh⟩ := o.rn t ht
      have l1 := textS_len wk hs
      have e2 : (Str.ofString "rule ").length = 5 := rfl
      have e1 : (Str.ofString " ").length = 1 := rfl
      have l2 := sum_le (words_each wk)
      have l3 := words_len wk
      walk_at "ds P9f"
      refine ⟨t, rfl, ⟨k1, wk⟩, by omega, hh, wordsL t, .inl rfl, by rw [e1]; omega, ?_, hY _ rfl⟩
      rw [e2]
      show 5 + (textS t).length ≤ _
      omega
    · walk_at "ds P9f"
      refine ⟨by simp only [List.length_map]; omega, linesH h, .inl ?_, Nat.le_trans (lines_sum o) (by decide), q⟩
      rw [map_str lineF, map_str lineR]
      unfold linesH lineP
      simp only [List.map_cons, List.map_append]

end
end T9

set_option Elab.async false
set_option linter.all false
set_option maxRecDepth 100000
namespace T9
open PySem PySem.Spec PyProof.Rows L2 DL
theorem sc_a {ds Q} : dSetC (some (some (Ent.arg ds))) Q = False := rfl
theorem s3_0 {α : Type} {a b c d x : α} {P : α → Prop} : (∃ z, atI ([a, b, c, d].set (Int.toNat 3) x) 0 = some z ∧ P z) ↔ P a := atx0
theorem s3_1 {α : Type} {a b c d x : α} {P : α → Prop} : (∃ z, atI ([a, b, c, d].set (Int.toNat 3) x) 1 = some z ∧ P z) ↔ P b := atx1
theorem s3_2 {α : Type} {a b c d x : α} {P : α → Prop} : (∃ z, atI ([a, b, c, d].set (Int.toNat 3) x) 2 = some z ∧ P z) ↔ P c := atx2
theorem s3_3 {α : Type} {a b c d x : α} {P : α → Prop} : (∃ z, atI ([a, b, c, d].set (Int.toNat 3) x) 3 = some z ∧ P z) ↔ P x := atx3
theorem s31_0 {α : Type} {a b c d x y : α} {P : α → Prop} : (∃ z, atI (([a, b, c, d].set (Int.toNat 3) x).set (Int.toNat 1) y) 0 = some z ∧ P z) ↔ P a := atx0
theorem s31_1 {α : Type} {a b c d x y : α} {P : α → Prop} : (∃ z, atI (([a, b, c, d].set (Int.toNat 3) x).set (Int.toNat 1) y) 1 = some z ∧ P z) ↔ P y := atx1
theorem s31_2 {α : Type} {a b c d x y : α} {P : α → Prop} : (∃ z, atI (([a, b, c, d].set (Int.toNat 3) x).set (Int.toNat 1) y) 2 = some z ∧ P z) ↔ P c := atx2
theorem s31_3 {α : Type} {a b c d x y : α} {P : α → Prop} : (∃ z, atI (([a, b, c, d].set (Int.toNat 3) x).set (Int.toNat 1) y) 3 = some z ∧ P z) ↔ P x := atx3
theorem sh_ints : ∀ cs : List Int, SeqAt.shaped (.list (cs.map .int)) = true := fun cs => by
  have h1 : ∀ l : List Int, PyData.canLayAll0 (l.map .int) = true := fun l => by
    induction l with
    | nil => rfl
    | cons a r ih =>
      show (PyData.canLay0 (.int a) && PyData.canLayAll0 (r.map .int)) = true
      rw [ih]; rfl
  have h2 : ∀ l : List Int, PyData.depthAll (l.map .int) = 0 := fun l => by
    induction l with
    | nil => rfl
    | cons a r ih =>
      show max (PyData.depth (.int a)) (PyData.depthAll (r.map .int)) = 0
      rw [ih]; rfl
  show (PyData.canLayAll0 (cs.map .int) && decide (PyData.depthAll (cs.map .int) + 1 ≤ 64)) = true
  rw [h1, h2]; rfl
theorem eq_nil (cs : List Int) : PyData.eqv (.list (cs.map .int)) (.list []) = decide (cs = []) := by
  cases cs with
  | nil => rfl
  | cons a r => rfl
local macro_rules | `(tactic| walk_at "ds P9g") => `(tactic| simp only [↓s3_0, ↓s3_1, ↓s3_2, ↓s3_3, ↓s31_0, ↓s31_1, ↓s31_2, ↓s31_3, sc_a, Bool.not_eq_true, decide_eq_false_iff_not, ↓dSeq, ↓dIfS, ↓dRet, ↓dRetN, ↓dAsg, ↓dAsgO, ↓dSet_eq, ↓sc_n, ↓sc_d, ↓sc_o, ↓sc_y, ↓dDrop, ↓dAsgG, ↓dgTup, ↓dgCons, ↓dgName, ↓dgNil, ↓dNext, ↓dBreak, ↓dCont, ↓dVar, ↓dC, ↓dOp, ↓dTest, ↓dAnd, ↓dOr, ↓dNot, ↓dAndV, ↓dOrV, ↓dNotV, ↓dIf, ↓dIfL, ↓dNil, ↓dCons, ↓dTup, ↓dLst, ↓dFrz, ↓dCall, ↓dCallP, ↓dCallF, ↓dCallN, ↓dSeqOf, ↓dRange1, ↓dRange2, ↓dEnum, ↓dZip, ↓dForD, ↓forD, ↓dLcD, ↓dYes, ↓dAppend, ↓dPop, ↓dExtend, ↓dSetItem, ↓dTruO, ↓bInt, ↓bAdd, ↓dNeg, ↓bEq, ↓bNe, ↓bIs, ↓bIsNot, ↓bLt, ↓bLe, ↓bGt, ↓bGe, ↓bOrd, ↓dChain, ↓bIn, ↓bIx, ↓dIxO, ↓dLenO, ↓dNo, ↓dYesO, ↓dSlice, ↓SlD, ↓dIsi, ↓dIsi2, ↓cLen, ↓cAll, ↓cStr, ↓cInt, ↓cTuple, ↓dListOf, ↓dCat, ↓dJoin, ↓dFmt, ↓dJs, ↓dJoined, ↓dGetT, ↓dInT, ↓dRev1, ↓bRep, ↓q1_at, ↓q2_at, ↓q3_at, ↓popex, ↓atx0, ↓atx1, ↓atx2, ↓atx3, ↓reduceIte,
  wipeD, backD, isInt, cast_succ_ne, at0, at1, at2, at3, ex_some, cut1, eqvS, eqvI, shS, shI, flatD, popget, emp_app, down0, down1, down2, down3, List.dropLast_concat, List.all_cons, List.all_nil, Bool.and_true, decide_eq_true_eq, isTy, isNone, startD, startF, List.map_cons, List.map_nil, List.length_cons, List.length_nil, List.nil_append, List.cons_append, List.replicate, List.getElem?_cons_zero, List.getElem?_cons_succ, List.getElem?_nil, List.set_cons_zero, List.set_cons_succ, List.set_nil, Nat.zero_add, Nat.reduceAdd, Nat.reduceSub, Nat.reduceLT, Nat.reduceLeDiff, Int.reduceAdd, Int.reduceSub, Int.toNat_natCast, if_true, if_false, ite_true, ite_false, Bool.false_eq_true, Bool.not_true, Bool.not_false, Bool.true_eq_false, true_and, and_true, Nat.sub_self, Nat.sub_zero, Nat.reduceMul, List.replicate_zero, List.append_nil])

structure RD (fs : List PyData) (n : Int) : Prop where
  ex : ∃ (cs : List Int) (i rest : Int), fs = [.list (cs.map .int), .int i, .int rest, .int n] ∧ cs.length ≤ 63 ∧ 0 ≤ i ∧ i ≤ n
def drS : FSpec := fun fs ds W => ∃ n many : Int, RD fs n ∧ 0 ≤ n ∧ n < 2 ^ 40 ∧ ds = [.int many] ∧ 0 < many ∧ many ≤ 1000 ∧ ∀ r fs', 0 ≤ r → r < many → RD fs' (n + 1) → W (.int r) fs'
theorem drS_mono : MonoF drS := fun fs ds W W' m ⟨n, many, a, b, c, d, e, f, h⟩ => ⟨n, many, a, b, c, d, e, f, fun r fs' h0 h1 h2 => m _ _ (h r fs' h0 h1 h2)⟩
theorem S__law_reader : FnScope ["_law_script"] ["_law_script"] (defScope (top 24)) := ⟨rfl, rfl, rfl, by decide +kernel, rfl, by decide +kernel, by decide +kernel⟩
theorem S__law_draw : FnScope ["_law_reader_here", "_law_many", "_law_found", "_law_cell", "_law_once"] ["_law_reader_here", "_law_many"] (defScope (top 25)) := ⟨rfl, rfl, rfl, by decide +kernel, rfl, by decide +kernel, by decide +kernel⟩
def rdN : NSpec := fun ds W => ∃ ns : List Int, ds = [.list (ns.map .int)] ∧ ns.length ≤ 63 ∧ ∀ fs, RD fs 0 → W fs
theorem rdN_mono : MonoN rdN := fun ds W W' m ⟨t, e, a, h⟩ => ⟨t, e, a, fun fs r => m _ (h fs r)⟩
theorem cut63 {ds : List PyData} (h : ds.length ≤ 63) : cutD ds none (some 63) = ds := by
  refine cutV_whole ⟨HT.sIx_none _ _, ?_⟩
  have := HT.sIx_nat ds.length ds.length 63
  rw [show (some (((63 : Nat) : Int))) = some (63 : Int) from rfl] at this
  rw [this]
  omega
theorem mix_ok {n c many : Int} (hn0 : 0 ≤ n) (hn : n < 2 ^ 40) (hm0 : 0 < many) {Z : Prop} (z : Z) :
    0 < (2147483549 : Int) ∧ CMul 7517 (n + 1) ∧ CPow (c % 2147483549 + 7517 * (n + 1) + 7) 5 ∧ 0 < (2147483629 : Int) ∧ CMul 94007 (n + 1) ∧ CPow ((c % 2147483549 + 7517 * (n + 1) + 7) ^ Int.toNat 5 % 2147483629 + 94007 * (n + 1)) 5 ∧ 0 < (2147483647 : Int) ∧
      CDivW (((c % 2147483549 + 7517 * (n + 1) + 7) ^ Int.toNat 5 % 2147483629 + 94007 * (n + 1)) ^ Int.toNat 5 % 2147483647) 64 ∧ 0 < many ∧ Z := by
  have hn : n < 1099511627776 := hn
  have h1 : (c % 2147483549 + 7517 * (n + 1) + 7).natAbs < 18446744073709551616 := by omega
  generalize (c % 2147483549 + 7517 * (n + 1) + 7) ^ Int.toNat 5 = y
  have h2 : (y % 2147483629 + 94007 * (n + 1)).natAbs < 18446744073709551616 := by omega
  exact ⟨by decide, .inl ⟨by decide, by decide⟩, ⟨by decide, by decide, h1⟩, by decide, .inl ⟨by decide, by decide⟩, ⟨by decide, by decide, h2⟩, by decide, ⟨by decide, by decide +kernel⟩, hm0, z⟩
section
variable {P : Program} {w : World} {K : PySem.W.Frag} {mg : Str → Option Value} {base : Heap} {k : Nat} {f : Addr} {fd : FuncData}
theorem ok__law_reader (F : Fun K "_law_reader" "_law_reader" (top 24) f fd) : FnOk P w K mg base CX0 (k + 1) f fd ["_law_script"] (spN K rdN) := by
  refine okN F S__law_reader (fun ds Q ⟨t, e, _⟩ => by rw [e]; rfl) fun cdv A outer s H E R hr => ⟨_, (pdn_ret (pdl_lst (pda_cons (pde_slice (pd_var 0) pdo_none (pdo_some pd_int)) (pda_cons pd_int (pda_cons pd_int (pda_cons pd_int pda_nil)))))), ?_⟩
  rintro ds W ⟨ns, rfl, hl, h⟩
  walk_at "ds P9g"
  rw [cut63 (by rw [List.length_map]; exact hl)]
  exact h _ ⟨ns, 0, 0, rfl, hl, by decide, by decide⟩
theorem ok__law_draw (B : B0 mg) (F : Fun K "_law_draw" "_law_draw" (top 25) f fd) : FnOk P w K mg base CX0 (k + 1) f fd ["_law_reader_here", "_law_many"] (spF K drS) := by
  refine okF F S__law_draw (fun fs ds Q ⟨n, m, _, _, _, e, _⟩ => by rw [e]; rfl) drS_mono fun cdv A outer s H E R hr => ⟨_, (pdss_cons (pds_setItem 0 (pde_add (pde_ixO 0 pd_int) pd_int) pd_int) (pdss_cons (pds_if (pdt_gt (pde_ixO 0 pd_int) pd_int) (pdss_cons (pds_set (i := 2) S__law_draw.nd (pde_mod (pde_int1 (pde_ixO 0 pd_int) B.int) (pd_var 1))) (pdss_cons (pds_setItem 0 (pde_fdiv (pde_ixO 0 pd_int) (pd_var 1)) pd_int) (pdss_one (pds_ret (pd_var 2))))) pdss_nil) (pdss_cons (pds_set (i := 3) S__law_draw.nd pd_int) (pdss_cons (pds_if (pdt_ne hr.units (pde_ixO 0 pd_int) (pde_frz (pdl_lst pda_nil))) (pdss_one (pds_set (i := 3) S__law_draw.nd (pde_ix (pde_ixO 0 pd_int) (pde_mod (pde_int1 (pde_ixO 0 pd_int) B.int) (pde_len (pde_ixO 0 pd_int) B.len))))) pdss_nil) (pdss_cons (pds_setItem 0 (pde_add (pde_ixO 0 pd_int) pd_int) pd_int) (pdss_cons (pds_if (pdw_and (pdt_ge (pd_var 3) (pde_pow pd_int pd_int)) (pdw_and1 (pdt_le (pde_ixO 0 pd_int) (pde_len (pde_ixO 0 pd_int) B.len)))).t (pdss_cons (pds_setItem 0 (pde_fdiv (pd_var 3) (pd_var 1)) pd_int) (pdss_one (pds_ret (pde_mod (pde_int1 (pd_var 3) B.int) (pd_var 1))))) pdss_nil) (pdss_cons (pds_set (i := 4) S__law_draw.nd (pde_mod (pde_int1 (pde_pow (pde_add (pde_add (pde_mod (pde_int1 (pd_var 3) B.int) pd_int) (pde_mul pd_int (pde_ixO 0 pd_int))) pd_int) pd_int) B.int) pd_int)) (pdss_one (pds_ret (pde_mod (pde_int1 (pde_fdiv (pde_mod (pde_int1 (pde_pow (pde_add (pd_var 4) (pde_mul pd_int (pde_ixO 0 pd_int))) pd_int) B.int) pd_int) pd_int) B.int) (pd_var 1))))))))))), ?_⟩
  rintro fs ds W ⟨n, many, ⟨cs, i, rest, rfl, hcs, hi0, hin⟩, hn0, hn, rfl, hm0, hm, h⟩
  have e63 : (cs.map PyData.int).length = cs.length := List.length_map _
  have mp : ∀ x : Int, 0 ≤ x % many ∧ x % many < many := fun x => ⟨Int.emod_nonneg _ (by omega), Int.emod_lt_of_pos _ hm0⟩
  have l4 : (2 : Int) < ((4 : Nat) : Int) := by decide
  have l4' : (1 : Int) < ((4 : Nat) : Int) := by decide
  have dv : ∀ x : Int, CDivW x many := fun x => wide_div hm0 (b := 12) (by omega) (by decide) (by decide)
  have fin : ∀ (x i' rest' : Int), 0 ≤ i' → i' ≤ n + 1 → ∀ es, some (some (Ent.arg [PyData.list (cs.map .int), .int i', .int rest', .int (n + 1)])) = some (some (Ent.arg es)) → W (.int (x % many)) es := fun x i' rest' h0 h1 es e => by
    cases e
    exact h _ _ (mp x).1 (mp x).2 ⟨cs, i', rest', rfl, hcs, h0, h1⟩
  walk_at "ds P9g"
  refine ⟨by decide, by decide, ?_⟩
  by_cases hr0 : 0 < rest
  · rw [if_pos hr0]
    exact ⟨hm0, dv _, by decide, l4, fin rest i (rest / many) hi0 (by omega)⟩
  · rw [if_neg hr0]
    refine ⟨sh_ints cs, sh_ints [], ?_⟩
    rw [eq_nil]
    by_cases hc : cs = []
    · subst hc
      walk_at "ds P9g"
      refine ⟨by decide, l4', ⟨by decide, by decide, by decide⟩, ?_⟩
      split
      · split
        · exact ⟨dv _, by decide, l4, hm0, fin _ (i + 1) _ (by omega) (by omega)⟩
        · exact mix_ok hn0 hn hm0 (fin _ (i + 1) rest (by omega) (by omega))
      · exact mix_ok hn0 hn hm0 (fin _ (i + 1) rest (by omega) (by omega))
    · have hl : 0 < cs.length := List.length_pos_iff.mpr hc
      simp only [decide_eq_false hc]
      walk_at "ds P9g"
      have hj : (i % (cs.length : Int)).toNat < cs.length := by
        have h1 := Int.emod_nonneg i (show (cs.length : Int) ≠ 0 by omega)
        have h2 := Int.emod_lt_of_pos i (show (0 : Int) < cs.length by omega)
        omega
      have ej : i % (cs.length : Int) = (((i % (cs.length : Int)).toNat : Nat) : Int) := by
        have h1 := Int.emod_nonneg i (show (cs.length : Int) ≠ 0 by omega)
        omega
      refine ⟨by rw [e63]; omega, .int cs[(i % (cs.length : Int)).toNat], ?_, by decide, l4', ⟨by decide, by decide, by decide⟩, ?_⟩
      · have z : atI (cs.map PyData.int) (((i % (cs.length : Int)).toNat : Nat) : Int) = some (.int cs[(i % (cs.length : Int)).toNat]) := atI_nat (by rw [List.getElem?_map, List.getElem?_eq_getElem hj]; rfl)
        rw [← ej] at z
        rw [e63]
        exact z
      · generalize cs[(i % (cs.length : Int)).toNat] = c
        walk_at "ds P9g"
        split
        · split
          · exact ⟨dv _, by decide, l4, hm0, fin _ (i + 1) _ (by omega) (by omega)⟩
          · exact mix_ok hn0 hn hm0 (fin _ (i + 1) rest (by omega) (by omega))
        · exact mix_ok hn0 hn hm0 (fin _ (i + 1) rest (by omega) (by omega))
end
end T9

set_option Elab.async false
set_option linter.all false
set_option maxRecDepth 100000
namespace T9
open PySem PySem.Spec PyProof.Rows L2 DL
structure nmOk (ns : List Str) : Prop where
  ne : ns ≠ []
  few : ns.length ≤ 1000
  ok : ∀ n ∈ ns, okName n = true
def lfS : FSpec := fun fs ds W => ∃ (crew slots : List Str) (ins : Bool) (n : Int), ds = [.tuple (crew.map .str), .tuple (slots.map .str), .bool ins] ∧ nmOk crew ∧ nmOk slots ∧ RD fs n ∧ 0 ≤ n ∧ n + 3 < 2 ^ 40 ∧
  ∀ t fs' n', RD fs' n' → n ≤ n' → n' ≤ n + 3 → wf "number" t → siz t = 1 → hgt t = 0 → W (enc t) fs'
theorem lfS_mono : MonoF lfS := fun fs ds W W' m ⟨c, s, i, n, a, b, c', d, e, f, h⟩ => ⟨c, s, i, n, a, b, c', d, e, f, fun t fs' n' h0 h1 h2 h3 h4 h5 => m _ _ (h t fs' n' h0 h1 h2 h3 h4 h5)⟩
def exS (kd : Str) (N : Nat) : FSpec := fun fs ds W => ∃ (crew slots : List Str) (ins : Bool) (d : Nat) (n : Int), ds = [.tuple (crew.map .str), .tuple (slots.map .str), .bool ins, .int d] ∧ d < N ∧ nmOk crew ∧ nmOk slots ∧ RD fs n ∧ 0 ≤ n ∧ n + (10 * 3 ^ d : Nat) < 2 ^ 40 ∧
  ∀ t fs' n', RD fs' n' → n ≤ n' → n' ≤ n + (10 * 3 ^ d : Nat) → wf kd t → siz t ≤ 10 * 3 ^ d → hgt t ≤ d + 1 → W (enc t) fs'
theorem exS_mono {kd N} : MonoF (exS kd N) := fun fs ds W W' m ⟨c, s, i, d, n, a, b, c', e, f, g, g', h⟩ => ⟨c, s, i, d, n, a, b, c', e, f, g, g', fun t fs' n' h0 h1 h2 h3 h4 h5 => m _ _ (h t fs' n' h0 h1 h2 h3 h4 h5)⟩
inductive PTag {α : Sort _} (f : α) : Type where | mk | other
def hid {α : Sort _} (f : α) (_ : PTag f) : α := f
theorem hid_1 {α β : Sort _} {f : α → β} {t : PTag f} {x : α} : hid f t x = f x := rfl
theorem dCallP_h {t : PSpec} {a : DA} {Γ : DEnv} {Q : PyData → DEnv → Prop} : dCallP t a Γ Q = a Γ fun ds Γ1 => t ds (hid (fun r => Q r Γ1) .mk) := rfl
theorem dCallN_h {t : NSpec} {a : DA} {Γ : DEnv} {Q : List PyData → DEnv → Prop} : dCallN t a Γ Q = a Γ fun ds Γ1 => t ds (hid (fun r => Q r Γ1) .mk) := rfl
theorem dCallF_h {i : Nat} {t : FSpec} {a : DA} {Γ : DEnv} {Q : PyData → DEnv → Prop} : dCallF i t a Γ Q = match Γ[i]? with
  | some (some (Ent.own _)) => a Γ fun ds Γ1 => (match Γ1[i]? with
    | some (some (Ent.own fs)) => t fs ds (hid (fun r es => Q r (Γ1.set i (some (Ent.own es)))) .mk)
    | _ => False)
  | some (some (Ent.arg _)) => a Γ fun ds Γ1 => (match Γ1[i]? with
    | some (some (Ent.arg fs)) => t fs ds (hid (fun r es => Q r (Γ1.set i (some (Ent.arg es)))) .mk)
    | _ => False)
  | _ => False := rfl
local macro_rules | `(tactic| walk_at "st P9h") => `(tactic| simp only [startF, startD, List.map_cons, List.map_nil, List.cons_append, List.nil_append, List.length_cons, List.length_nil, List.replicate, Nat.reduceAdd, Nat.reduceSub])
local macro_rules | `(tactic| walk_at "ds P9h") => `(tactic| simp only [sc_a, Bool.not_eq_true, decide_eq_false_iff_not, ↓dSeq, ↓dIfS, ↓dRet, ↓dRetN, ↓dAsg, ↓dAsgO, ↓dSet_eq, ↓sc_n, ↓sc_d, ↓sc_o, ↓sc_y, ↓dDrop, ↓dAsgG, ↓dgTup, ↓dgCons, ↓dgName, ↓dgNil, ↓dNext, ↓dBreak, ↓dCont, ↓dVar, ↓dC, ↓dOp, ↓dTest, ↓dAnd, ↓dOr, ↓dNot, ↓dAndV, ↓dOrV, ↓dNotV, ↓dIf, ↓dIfL, ↓dNil, ↓dCons, ↓dTup, ↓dLst, ↓dFrz, ↓dCall, ↓dCallP_h, ↓dCallF_h, ↓dCallN_h, ↓hid_1, ↓dSeqOf, ↓dRange1, ↓dRange2, ↓dEnum, ↓dZip, ↓dForD, ↓forD, ↓dLcD, ↓dYes, ↓dAppend, ↓dPop, ↓dExtend, ↓dSetItem, ↓dTruO, ↓bInt, ↓bAdd, ↓dNeg, ↓bEq, ↓bNe, ↓bIs, ↓bIsNot, ↓bLt, ↓bLe, ↓bGt, ↓bGe, ↓bOrd, ↓dChain, ↓bIn, ↓bIx, ↓dIxO, ↓dLenO, ↓dNo, ↓dYesO, ↓dSlice, ↓SlD, ↓dIsi, ↓dIsi2, ↓cLen, ↓cAll, ↓cStr, ↓cInt, ↓cTuple, ↓dListOf, ↓dCat, ↓dJoin, ↓dFmt, ↓dJs, ↓dJoined, ↓dGetT, ↓dInT, ↓dRev1, ↓bRep, ↓q1_at, ↓q2_at, ↓q3_at, ↓popex, ↓atx0, ↓atx1, ↓atx2, ↓atx3, ↓reduceIte,
  wipeD, backD, isInt, cast_succ_ne, at0, at1, at2, at3, ex_some, cut1, eqvS, eqvI, shS, shI, flatD, popget, emp_app, down0, down1, down2, down3, List.dropLast_concat, List.all_cons, List.all_nil, Bool.and_true, decide_eq_true_eq, isTy, isNone, startD, startF, List.map_cons, List.map_nil, List.length_cons, List.length_nil, List.nil_append, List.cons_append, List.replicate, List.getElem?_cons_zero, List.getElem?_cons_succ, List.getElem?_nil, List.set_cons_zero, List.set_cons_succ, List.set_nil, Nat.zero_add, Nat.reduceAdd, Nat.reduceSub, Nat.reduceLT, Nat.reduceLeDiff, Int.reduceAdd, Int.reduceSub, Int.toNat_natCast, if_true, if_false, ite_true, ite_false, Bool.false_eq_true, Bool.not_true, Bool.not_false, Bool.true_eq_false, true_and, and_true, Nat.sub_self, Nat.sub_zero, Nat.reduceMul, List.replicate_zero, List.append_nil])
theorem at_in {ds : List PyData} {r : Int} (h0 : 0 ≤ r) (h1 : r < ds.length) : ∃ z, atI ds r = some z ∧ z ∈ ds := by
  have hj : r.toNat < ds.length := by omega
  have er : r = ((r.toNat : Nat) : Int) := by omega
  refine ⟨ds[r.toNat], ?_, List.getElem_mem hj⟩
  have z : atI ds ((r.toNat : Nat) : Int) = some ds[r.toNat] := atI_nat (List.getElem?_eq_getElem hj)
  rw [← er] at z
  exact z
theorem at_name {ns : List Str} (o : nmOk ns) {r : Int} (h0 : 0 ≤ r) (h1 : r < ((ns.map PyData.str).length : Nat)) : ∃ x, atI (ns.map PyData.str) r = some (.str x) ∧ okName x = true := by
  obtain ⟨z, e, m⟩ := at_in h0 h1
  obtain ⟨x, hx, rfl⟩ := List.mem_map.mp m
  exact ⟨x, e, o.ok x hx⟩
theorem S__law_leaf : FnScope ["_law_reader_here", "_law_crew", "_law_slots", "_law_inside", "_law_way"] ["_law_reader_here", "_law_crew", "_law_slots", "_law_inside"] (defScope (top 27)) := ⟨rfl, rfl, rfl, by decide +kernel, rfl, by decide +kernel, by decide +kernel⟩
theorem S__law_condition : FnScope ["_law_reader_here", "_law_crew", "_law_slots", "_law_inside", "_law_deep", "_law_way", "_law_sign", "_law_one"] ["_law_reader_here", "_law_crew", "_law_slots", "_law_inside", "_law_deep"] (defScope (top 28)) := ⟨rfl, rfl, rfl, by decide +kernel, rfl, by decide +kernel, by decide +kernel⟩
section
variable {P : Program} {w : World} {K : PySem.W.Frag} {mg : Str → Option Value} {base : Heap} {k : Nat} {f : Addr} {fd : FuncData}
theorem wf_my {x : Str} (o : okName x = true) : wf "number" (.nam "my" [x]) := ⟨show tabOf "number" "my" = some [("name" : Str)] by decide +kernel, fun z hz => by rw [List.mem_singleton.mp hz]; exact o⟩
theorem wf_of {x y : Str} (o : okName x = true) (o' : okName y = true) : wf "number" (.nam "of" [x, y]) := ⟨show tabOf "number" "of" = some [("name" : Str), "name"] by decide +kernel, fun z hz => by
  simp only [List.mem_cons, List.not_mem_nil, or_false] at hz
  rcases hz with e | e
  · rw [e]; exact o
  · rw [e]; exact o'⟩
theorem leaf_int {z : PyData} (h : z ∈ [PyData.int 0, .int 1, .int 2, .int (-1), .int 3, .int (-7), .int 100, .int 1]) : ∃ i : Int, z = .int i ∧ i.natAbs.log2 < 200 := by
  simp only [List.mem_cons, List.not_mem_nil, or_false] at h
  rcases h with h | h | h | h | h | h | h | h <;> exact ⟨_, h, by decide⟩
theorem ok__law_leaf (B : B0 mg) (F : Fun K "_law_leaf" "_law_leaf" (top 27) f fd) (h__law_draw : Has P w K mg base "_law_draw" k ["_law_reader_here", "_law_many"] (spF K drS)) : FnOk P w K mg base CX0 (k + 1) f fd ["_law_reader_here", "_law_crew", "_law_slots", "_law_inside"] (spF K lfS) := by
  refine okF F S__law_leaf (fun fs ds Q ⟨_, _, _, _, e, _⟩ => by rw [e]; rfl) lfS_mono fun cdv A outer s H E R hr => ⟨_, (pdss_cons (pds_set (i := 4) S__law_leaf.nd (pde_callHF 0 drS_mono h__law_draw hr (pda_cons pd_int pda_nil))) (pdss_cons (pds_if (pdt_eq hr.units (pd_var 4) pd_int) (pdss_one (pds_ret (pde_ix (pde_frz (pdl_lst (pda_cons pd_int (pda_cons pd_int (pda_cons pd_int (pda_cons (pde_neg pd_int) (pda_cons pd_int (pda_cons (pde_neg pd_int) (pda_cons pd_int (pda_cons pd_int pda_nil)))))))))) (pde_callHF 0 drS_mono h__law_draw hr (pda_cons pd_int pda_nil))))) pdss_nil) (pdss_cons (pds_if (pdw_and (pdt_lt (pd_var 4) pd_int) (pdw_and1 (pdt_val (pd_var 3)))).t (pdss_one (pds_ret (pde_tup (pda_cons pd_str (pda_cons (pde_ix (pd_var 2) (pde_callHF 0 drS_mono h__law_draw hr (pda_cons (pde_len (pd_var 2) B.len) pda_nil))) pda_nil))))) pdss_nil) (pdss_one (pds_ret (pde_tup (pda_cons pd_str (pda_cons (pde_ix (pd_var 1) (pde_callHF 0 drS_mono h__law_draw hr (pda_cons (pde_len (pd_var 1) B.len) pda_nil))) (pda_cons (pde_ix (pd_var 2) (pde_callHF 0 drS_mono h__law_draw hr (pda_cons (pde_len (pd_var 2) B.len) pda_nil))) pda_nil))))))))), ?_⟩
  rintro fs ds W ⟨crew, slots, ins, n, rfl, hcr, hsl, rd, hn0, hn, h⟩
  have hn : n + 3 < 1099511627776 := hn
  have cr := hcr.few
  have sl := hsl.few
  have cr0 : 0 < crew.length := List.length_pos_iff.mpr hcr.ne
  have sl0 : 0 < slots.length := List.length_pos_iff.mpr hsl.ne
  walk_at "st P9h"
  walk_at "ds P9h"
  refine ⟨n, 4, rd, hn0, by omega, rfl, by decide, by decide, fun r fs1 h0 h1 rd1 => ?_⟩
  walk_at "ds P9h"
  by_cases c : r = 0
  · rw [if_pos c]
    refine ⟨n + 1, 8, rd1, by omega, by omega, rfl, by decide, by decide, fun r2 fs2 h2 h3 rd2 => ?_⟩
    walk_at "ds P9h"
    obtain ⟨z, e, m⟩ := at_in (ds := [PyData.int 0, .int 1, .int 2, .int (-1), .int 3, .int (-7), .int 100, .int 1]) h2 h3
    obtain ⟨i, rfl, hi⟩ := leaf_int m
    refine ⟨_, e, fun es e2 => ?_⟩
    cases e2
    exact h (.num i) fs2 _ rd2 (by omega) (by omega) ⟨rfl, hi⟩ rfl rfl
  · rw [if_neg c]
    split
    · split
      · refine ⟨n + 1, _, rd1, by omega, by omega, rfl, by rw [List.length_map]; omega, by rw [List.length_map]; omega, fun r2 fs2 h2 h3 rd2 => ?_⟩
        walk_at "ds P9h"
        obtain ⟨x, e, o⟩ := at_name hsl h2 h3
        refine ⟨_, e, fun es e2 => ?_⟩
        cases e2
        exact h (.nam "my" [x]) fs2 _ rd2 (by omega) (by omega) (wf_my o) rfl rfl
      · refine ⟨n + 1, _, rd1, by omega, by omega, rfl, by rw [List.length_map]; omega, by rw [List.length_map]; omega, fun r2 fs2 h2 h3 rd2 => ?_⟩
        walk_at "ds P9h"
        obtain ⟨x, e, o⟩ := at_name hcr h2 h3
        refine ⟨_, e, n + 1 + 1, _, rd2, by omega, by omega, rfl, by rw [List.length_map]; omega, by rw [List.length_map]; omega, fun r3 fs3 h4 h5 rd3 => ?_⟩
        walk_at "ds P9h"
        obtain ⟨y, e', o'⟩ := at_name hsl h4 h5
        refine ⟨_, e', fun es e2 => ?_⟩
        cases e2
        exact h (.nam "of" [x, y]) fs3 _ rd3 (by omega) (by omega) (wf_of o o') rfl rfl
    · refine ⟨n + 1, _, rd1, by omega, by omega, rfl, by rw [List.length_map]; omega, by rw [List.length_map]; omega, fun r2 fs2 h2 h3 rd2 => ?_⟩
      walk_at "ds P9h"
      obtain ⟨x, e, o⟩ := at_name hcr h2 h3
      refine ⟨_, e, n + 1 + 1, _, rd2, by omega, by omega, rfl, by rw [List.length_map]; omega, by rw [List.length_map]; omega, fun r3 fs3 h4 h5 rd3 => ?_⟩
      walk_at "ds P9h"
      obtain ⟨y, e', o'⟩ := at_name hsl h4 h5
      refine ⟨_, e', fun es e2 => ?_⟩
      cases e2
      exact h (.nam "of" [x, y]) fs3 _ rd3 (by omega) (by omega) (wf_of o o') rfl rfl
theorem cmp_in {z : PyData} (h : z ∈ [PyData.str "=", .str "<"]) : ∃ s, z = .str s ∧ tabOf "condition" s = some [("number" : Str), "number"] := by
  simp only [List.mem_cons, List.not_mem_nil, or_false] at h
  rcases h with h | h <;> exact ⟨_, h, by decide +kernel⟩
theorem log_in {z : PyData} (h : z ∈ [PyData.str "and", .str "or"]) : ∃ s, z = .str s ∧ tabOf "condition" s = some [("condition" : Str), "condition"] := by
  simp only [List.mem_cons, List.not_mem_nil, or_false] at h
  rcases h with h | h <;> exact ⟨_, h, by decide +kernel⟩
theorem pow_step {d : Nat} (h : 1 ≤ d) : ∃ p, 1 ≤ p ∧ 10 * 3 ^ d = 30 * p ∧ 10 * 3 ^ (d - 1) = 10 * p := by
  refine ⟨3 ^ (d - 1), Nat.one_le_pow _ _ (by decide), ?_, rfl⟩
  obtain ⟨e, rfl⟩ : ∃ e, d = e + 1 := ⟨d - 1, by omega⟩
  rw [Nat.pow_succ, Nat.add_sub_cancel]
  omega
theorem not_tab : tabOf "condition" "not" = some [("condition" : Str)] := by decide +kernel
theorem num_ne : ("number" : Str) ≠ "name" := by decide +kernel
theorem con_ne : ("condition" : Str) ≠ "name" := by decide +kernel
theorem ok__law_condition {N : Nat} (B : B0 mg) (F : Fun K "_law_condition" "_law_condition" (top 28) f fd) (h__law_draw : Has P w K mg base "_law_draw" k ["_law_reader_here", "_law_many"] (spF K drS)) (h__law_leaf : Has P w K mg base "_law_leaf" k ["_law_reader_here", "_law_crew", "_law_slots", "_law_inside"] (spF K lfS))
    (h__law_condition : Has P w K mg base "_law_condition" k ["_law_reader_here", "_law_crew", "_law_slots", "_law_inside", "_law_deep"] (spF K (exS "condition" N))) (h__law_number : Has P w K mg base "_law_number" k ["_law_reader_here", "_law_crew", "_law_slots", "_law_inside", "_law_deep"] (spF K (exS "number" N))) :
    FnOk P w K mg base CX0 (k + 1) f fd ["_law_reader_here", "_law_crew", "_law_slots", "_law_inside", "_law_deep"] (spF K (exS "condition" (N + 1))) := by
  refine okF F S__law_condition (fun fs ds Q ⟨_, _, _, _, _, e, _⟩ => by rw [e]; rfl) exS_mono fun cdv A outer s H E R hr => ⟨_, (pdss_cons (pds_set (i := 5) S__law_condition.nd (pde_callHF 0 drS_mono h__law_draw hr (pda_cons pd_int pda_nil))) (pdss_cons (pds_if (pdw_or (pdt_lt (pd_var 4) pd_int) (pdw_or1 (pdt_lt (pd_var 5) pd_int))).t (pdss_cons (pds_set (i := 6) S__law_condition.nd (pde_ix (pde_frz (pdl_lst (pda_cons pd_str (pda_cons pd_str pda_nil)))) (pde_callHF 0 drS_mono h__law_draw hr (pda_cons pd_int pda_nil)))) (pdss_one (pds_ret (pde_tup (pda_cons (pd_var 6) (pda_cons (pde_callHF 0 lfS_mono h__law_leaf hr (pda_cons (pd_var 1) (pda_cons (pd_var 2) (pda_cons (pd_var 3) pda_nil)))) (pda_cons (pde_callHF 0 lfS_mono h__law_leaf hr (pda_cons (pd_var 1) (pda_cons (pd_var 2) (pda_cons (pd_var 3) pda_nil)))) pda_nil))))))) pdss_nil) (pdss_cons (pds_if (pdt_lt (pd_var 5) pd_int) (pdss_cons (pds_set (i := 6) S__law_condition.nd (pde_ix (pde_frz (pdl_lst (pda_cons pd_str (pda_cons pd_str pda_nil)))) (pde_sub (pd_var 5) pd_int))) (pdss_one (pds_ret (pde_tup (pda_cons (pd_var 6) (pda_cons (pde_callHF 0 exS_mono h__law_number hr (pda_cons (pd_var 1) (pda_cons (pd_var 2) (pda_cons (pd_var 3) (pda_cons (pde_sub (pd_var 4) pd_int) pda_nil))))) (pda_cons (pde_callHF 0 lfS_mono h__law_leaf hr (pda_cons (pd_var 1) (pda_cons (pd_var 2) (pda_cons (pd_var 3) pda_nil)))) pda_nil))))))) pdss_nil) (pdss_cons (pds_set (i := 7) S__law_condition.nd (pde_callHF 0 exS_mono h__law_condition hr (pda_cons (pd_var 1) (pda_cons (pd_var 2) (pda_cons (pd_var 3) (pda_cons (pde_sub (pd_var 4) pd_int) pda_nil)))))) (pdss_cons (pds_if (pdt_eq hr.units (pd_var 5) pd_int) (pdss_one (pds_ret (pde_tup (pda_cons pd_str (pda_cons (pd_var 7) pda_nil))))) pdss_nil) (pdss_one (pds_ret (pde_tup (pda_cons (pde_ix (pde_frz (pdl_lst (pda_cons pd_str (pda_cons pd_str pda_nil)))) (pde_sub (pd_var 5) pd_int)) (pda_cons (pd_var 7) (pda_cons (pde_callHF 0 exS_mono h__law_condition hr (pda_cons (pd_var 1) (pda_cons (pd_var 2) (pda_cons (pd_var 3) (pda_cons pd_int pda_nil))))) pda_nil))))))))))), ?_⟩
  rintro fs ds W ⟨crew, slots, ins, d, n, rfl, hd, hcr, hsl, rd, hn0, hn, h⟩
  have hn : n + (10 * 3 ^ d : Nat) < 1099511627776 := hn
  have hb : 10 ≤ 10 * 3 ^ d := by
    have : 1 ≤ 3 ^ d := Nat.one_le_pow _ _ (by decide)
    omega
  generalize hB : 10 * 3 ^ d = Bd at *
  walk_at "st P9h"
  walk_at "ds P9h"
  refine ⟨n, 7, rd, hn0, by omega, rfl, by decide, by decide, fun r fs1 h0 h1 rd1 => ?_⟩
  walk_at "ds P9h"
  by_cases c : (d : Int) < 1
  · rw [if_pos c]
    refine ⟨n + 1, 2, rd1, by omega, by omega, rfl, by decide, by decide, fun r2 fs2 h2 h3 rd2 => ?_⟩
    walk_at "ds P9h"
    obtain ⟨z, e, m⟩ := at_in (ds := [PyData.str "=", .str "<"]) h2 h3
    obtain ⟨s, rfl, hs⟩ := cmp_in m
    refine ⟨_, e, crew, slots, ins, n + 1 + 1, rfl, hcr, hsl, rd2, by omega, by omega, fun t1 fs3 n3 rd3 a3 b3 w3 s3 g3 => ?_⟩
    walk_at "ds P9h"
    refine ⟨crew, slots, ins, n3, rfl, hcr, hsl, rd3, by omega, by omega, fun t2 fs4 n4 rd4 a4 b4 w4 s4 g4 => ?_⟩
    walk_at "ds P9h"
    refine fun es e2 => ?_
    cases e2
    exact h (.two s t1 t2) fs4 n4 rd4 (by omega) (by omega) ⟨_, _, hs, num_ne, num_ne, w3, w4⟩ (by simp only [siz]; omega) (by simp only [hgt]; omega)
  · rw [if_neg c]
    obtain ⟨p, hp, e1, e2⟩ := pow_step (d := d) (by omega)
    have ed : (d : Int) - 1 = ((d - 1 : Nat) : Int) := by omega
    by_cases c2 : r < 2
    · rw [if_pos c2]
      refine ⟨n + 1, 2, rd1, by omega, by omega, rfl, by decide, by decide, fun r2 fs2 h2 h3 rd2 => ?_⟩
      walk_at "ds P9h"
      obtain ⟨z, e, m⟩ := at_in (ds := [PyData.str "=", .str "<"]) h2 h3
      obtain ⟨s, rfl, hs⟩ := cmp_in m
      refine ⟨_, e, crew, slots, ins, n + 1 + 1, rfl, hcr, hsl, rd2, by omega, by omega, fun t1 fs3 n3 rd3 a3 b3 w3 s3 g3 => ?_⟩
      walk_at "ds P9h"
      refine ⟨crew, slots, ins, n3, rfl, hcr, hsl, rd3, by omega, by omega, fun t2 fs4 n4 rd4 a4 b4 w4 s4 g4 => ?_⟩
      walk_at "ds P9h"
      refine fun es e2 => ?_
      cases e2
      exact h (.two s t1 t2) fs4 n4 rd4 (by omega) (by omega) ⟨_, _, hs, num_ne, num_ne, w3, w4⟩ (by simp only [siz]; omega) (by simp only [hgt]; omega)
    · rw [if_neg c2]
      by_cases c4 : r < 4
      · rw [if_pos c4]
        obtain ⟨z, e, m⟩ := at_in (ds := [PyData.str "=", .str "<"]) (r := r - 2) (by omega) (by show r - 2 < ((2 : Nat) : Int); omega)
        obtain ⟨s, rfl, hs⟩ := cmp_in m
        refine ⟨_, e, ?_⟩
        (try walk_at "ds P9h")
        rw [ed]
        refine ⟨crew, slots, ins, d - 1, n + 1, rfl, by omega, hcr, hsl, rd1, by omega, by omega, fun t1 fs3 n3 rd3 a3 b3 w3 s3 g3 => ?_⟩
        walk_at "ds P9h"
        refine ⟨crew, slots, ins, n3, rfl, hcr, hsl, rd3, by omega, by omega, fun t2 fs4 n4 rd4 a4 b4 w4 s4 g4 => ?_⟩
        walk_at "ds P9h"
        refine fun es e2 => ?_
        cases e2
        exact h (.two s t1 t2) fs4 n4 rd4 (by omega) (by omega) ⟨_, _, hs, num_ne, num_ne, w3, w4⟩ (by simp only [siz]; omega) (by simp only [hgt]; omega)
      · rw [if_neg c4]
        rw [ed]
        refine ⟨crew, slots, ins, d - 1, n + 1, rfl, by omega, hcr, hsl, rd1, by omega, by omega, fun t1 fs3 n3 rd3 a3 b3 w3 s3 g3 => ?_⟩
        walk_at "ds P9h"
        by_cases c5 : r = 4
        · rw [if_pos c5]
          refine fun es e2 => ?_
          cases e2
          exact h (.one "not" t1) fs3 n3 rd3 (by omega) (by omega) ⟨_, not_tab, con_ne, w3⟩ (by simp only [siz]; omega) (by simp only [hgt]; omega)
        · rw [if_neg c5]
          obtain ⟨z, e, m⟩ := at_in (ds := [PyData.str "and", .str "or"]) (r := r - 5) (by omega) (by show r - 5 < ((2 : Nat) : Int); omega)
          obtain ⟨s, rfl, hs⟩ := log_in m
          refine ⟨_, e, crew, slots, ins, 0, n3, rfl, by omega, hcr, hsl, rd3, by omega, by show n3 + ((10 : Nat) : Int) < 1099511627776; omega, fun t2 fs4 n4 rd4 a4 b4 w4 s4 g4 => ?_⟩
          have b4 : n4 ≤ n3 + ((10 : Nat) : Int) := b4
          have s4 : siz t2 ≤ 10 := s4
          walk_at "ds P9h"
          refine fun es e2 => ?_
          cases e2
          exact h (.two s t1 t2) fs4 n4 rd4 (by omega) (by omega) ⟨_, _, hs, con_ne, con_ne, w3, w4⟩ (by simp only [siz]; omega) (by simp only [hgt]; omega)
end
end T9

set_option Elab.async false
set_option linter.all false
set_option maxRecDepth 100000
namespace T9
open PySem PySem.Spec PyProof.Rows L2 DL
local macro_rules | `(tactic| walk_at "st P9i") => `(tactic| simp only [startF, startD, List.map_cons, List.map_nil, List.cons_append, List.nil_append, List.length_cons, List.length_nil, List.replicate, Nat.reduceAdd, Nat.reduceSub])
local macro_rules | `(tactic| walk_at "ds P9i") => `(tactic| simp only [sc_a, Bool.not_eq_true, decide_eq_false_iff_not, ↓dSeq, ↓dIfS, ↓dRet, ↓dRetN, ↓dAsg, ↓dAsgO, ↓dSet_eq, ↓sc_n, ↓sc_d, ↓sc_o, ↓sc_y, ↓dDrop, ↓dAsgG, ↓dgTup, ↓dgCons, ↓dgName, ↓dgNil, ↓dNext, ↓dBreak, ↓dCont, ↓dVar, ↓dC, ↓dOp, ↓dTest, ↓dAnd, ↓dOr, ↓dNot, ↓dAndV, ↓dOrV, ↓dNotV, ↓dIf, ↓dIfL, ↓dNil, ↓dCons, ↓dTup, ↓dLst, ↓dFrz, ↓dCall, ↓dCallP_h, ↓dCallF_h, ↓dCallN_h, ↓hid_1, ↓dSeqOf, ↓dRange1, ↓dRange2, ↓dEnum, ↓dZip, ↓dForD, ↓forD, ↓dLcD, ↓dYes, ↓dAppend, ↓dPop, ↓dExtend, ↓dSetItem, ↓dTruO, ↓bInt, ↓bAdd, ↓dNeg, ↓bEq, ↓bNe, ↓bIs, ↓bIsNot, ↓bLt, ↓bLe, ↓bGt, ↓bGe, ↓bOrd, ↓dChain, ↓bIn, ↓bIx, ↓dIxO, ↓dLenO, ↓dNo, ↓dYesO, ↓dSlice, ↓SlD, ↓dIsi, ↓dIsi2, ↓cLen, ↓cAll, ↓cStr, ↓cInt, ↓cTuple, ↓dListOf, ↓dCat, ↓dJoin, ↓dFmt, ↓dJs, ↓dJoined, ↓dGetT, ↓dInT, ↓dRev1, ↓bRep, ↓q1_at, ↓q2_at, ↓q3_at, ↓popex, ↓atx0, ↓atx1, ↓atx2, ↓atx3, ↓reduceIte,
  wipeD, backD, isInt, cast_succ_ne, at0, at1, at2, at3, ex_some, cut1, eqvS, eqvI, shS, shI, flatD, popget, emp_app, down0, down1, down2, down3, List.dropLast_concat, List.all_cons, List.all_nil, Bool.and_true, decide_eq_true_eq, isTy, isNone, startD, startF, List.map_cons, List.map_nil, List.length_cons, List.length_nil, List.nil_append, List.cons_append, List.replicate, List.getElem?_cons_zero, List.getElem?_cons_succ, List.getElem?_nil, List.set_cons_zero, List.set_cons_succ, List.set_nil, Nat.zero_add, Nat.reduceAdd, Nat.reduceSub, Nat.reduceLT, Nat.reduceLeDiff, Int.reduceAdd, Int.reduceSub, Int.toNat_natCast, if_true, if_false, ite_true, ite_false, Bool.false_eq_true, Bool.not_true, Bool.not_false, Bool.true_eq_false, true_and, and_true, Nat.sub_self, Nat.sub_zero, Nat.reduceMul, List.replicate_zero, List.append_nil])
theorem S__law_number : FnScope ["_law_reader_here", "_law_crew", "_law_slots", "_law_inside", "_law_deep", "_law_way", "_law_first", "_law_one", "_law_sign"] ["_law_reader_here", "_law_crew", "_law_slots", "_law_inside", "_law_deep"] (defScope (top 29)) := ⟨rfl, rfl, rfl, by decide +kernel, rfl, by decide +kernel, by decide +kernel⟩
theorem if_tab : tabOf "number" "if" = some [("condition" : Str), "number", "number"] := by decide +kernel
theorem count_tab : tabOf "number" "count" = some [("condition" : Str)] := by decide +kernel
theorem sum_tab : tabOf "number" "sum" = some [("number" : Str), "condition"] := by decide +kernel
theorem bin_in {z : PyData} (h : z ∈ [PyData.str "+", .str "-", .str "*", .str "least", .str "most"]) : ∃ s, z = .str s ∧ tabOf "number" s = some [("number" : Str), "number"] := by
  simp only [List.mem_cons, List.not_mem_nil, or_false] at h
  rcases h with h | h | h | h | h <;> exact ⟨_, h, by decide +kernel⟩
section
variable {P : Program} {w : World} {K : PySem.W.Frag} {mg : Str → Option Value} {base : Heap} {k : Nat} {f : Addr} {fd : FuncData}
theorem ok__law_number {N : Nat} (B : B0 mg) (F : Fun K "_law_number" "_law_number" (top 29) f fd) (h__law_draw : Has P w K mg base "_law_draw" k ["_law_reader_here", "_law_many"] (spF K drS)) (h__law_leaf : Has P w K mg base "_law_leaf" k ["_law_reader_here", "_law_crew", "_law_slots", "_law_inside"] (spF K lfS))
    (h__law_condition : Has P w K mg base "_law_condition" k ["_law_reader_here", "_law_crew", "_law_slots", "_law_inside", "_law_deep"] (spF K (exS "condition" N))) (h__law_number : Has P w K mg base "_law_number" k ["_law_reader_here", "_law_crew", "_law_slots", "_law_inside", "_law_deep"] (spF K (exS "number" N))) :
    FnOk P w K mg base CX0 (k + 1) f fd ["_law_reader_here", "_law_crew", "_law_slots", "_law_inside", "_law_deep"] (spF K (exS "number" (N + 1))) := by
  refine okF F S__law_number (fun fs ds Q ⟨_, _, _, _, _, e, _⟩ => by rw [e]; rfl) exS_mono fun cdv A outer s H E R hr => ⟨_, (pdss_cons (pds_set (i := 5) S__law_number.nd (pde_callHF 0 drS_mono h__law_draw hr (pda_cons pd_int pda_nil))) (pdss_cons (pds_if (pdw_or (pdt_lt (pd_var 4) pd_int) (pdw_or1 (pdt_eq hr.units (pd_var 5) pd_int))).t (pdss_one (pds_ret (pde_callHF 0 lfS_mono h__law_leaf hr (pda_cons (pd_var 1) (pda_cons (pd_var 2) (pda_cons (pd_var 3) pda_nil)))))) pdss_nil) (pdss_cons (pds_if (pdt_eq hr.units (pd_var 5) pd_int) (pdss_cons (pds_set (i := 6) S__law_number.nd (pde_callHF 0 exS_mono h__law_condition hr (pda_cons (pd_var 1) (pda_cons (pd_var 2) (pda_cons (pd_var 3) (pda_cons pd_int pda_nil)))))) (pdss_one (pds_ret (pde_tup (pda_cons pd_str (pda_cons (pd_var 6) (pda_cons (pde_callHF 0 exS_mono h__law_number hr (pda_cons (pd_var 1) (pda_cons (pd_var 2) (pda_cons (pd_var 3) (pda_cons (pde_sub (pd_var 4) pd_int) pda_nil))))) (pda_cons (pde_callHF 0 lfS_mono h__law_leaf hr (pda_cons (pd_var 1) (pda_cons (pd_var 2) (pda_cons (pd_var 3) pda_nil)))) pda_nil)))))))) pdss_nil) (pdss_cons (pds_if (pdt_lt (pd_var 5) pd_int) (pdss_one (pds_ret (pde_tup (pda_cons pd_str (pda_cons (pde_callHF 0 exS_mono h__law_condition hr (pda_cons (pd_var 1) (pda_cons (pd_var 2) (pda_cons pd_bl (pda_cons (pde_sub (pd_var 4) pd_int) pda_nil))))) pda_nil))))) pdss_nil) (pdss_cons (pds_if (pdt_eq hr.units (pd_var 5) pd_int) (pdss_cons (pds_set (i := 7) S__law_number.nd (pde_callHF 0 exS_mono h__law_number hr (pda_cons (pd_var 1) (pda_cons (pd_var 2) (pda_cons pd_bl (pda_cons (pde_sub (pd_var 4) pd_int) pda_nil)))))) (pdss_one (pds_ret (pde_tup (pda_cons pd_str (pda_cons (pd_var 7) (pda_cons (pde_callHF 0 exS_mono h__law_condition hr (pda_cons (pd_var 1) (pda_cons (pd_var 2) (pda_cons pd_bl (pda_cons pd_int pda_nil))))) pda_nil))))))) pdss_nil) (pdss_cons (pds_set (i := 8) S__law_number.nd (pde_ix (pde_frz (pdl_lst (pda_cons pd_str (pda_cons pd_str (pda_cons pd_str (pda_cons pd_str (pda_cons pd_str pda_nil))))))) (pde_sub (pd_var 5) pd_int))) (pdss_cons (pds_set (i := 7) S__law_number.nd (pde_callHF 0 exS_mono h__law_number hr (pda_cons (pd_var 1) (pda_cons (pd_var 2) (pda_cons (pd_var 3) (pda_cons (pde_sub (pd_var 4) pd_int) pda_nil)))))) (pdss_one (pds_ret (pde_tup (pda_cons (pd_var 8) (pda_cons (pd_var 7) (pda_cons (pde_callHF 0 exS_mono h__law_number hr (pda_cons (pd_var 1) (pda_cons (pd_var 2) (pda_cons (pd_var 3) (pda_cons (pde_sub (pd_var 4) pd_int) pda_nil))))) pda_nil))))))))))))), ?_⟩
  rintro fs ds W ⟨crew, slots, ins, d, n, rfl, hd, hcr, hsl, rd, hn0, hn, h⟩
  have hn : n + (10 * 3 ^ d : Nat) < 1099511627776 := hn
  have hb : 10 ≤ 10 * 3 ^ d := by
    have : 1 ≤ 3 ^ d := Nat.one_le_pow _ _ (by decide)
    omega
  generalize hB : 10 * 3 ^ d = Bd at *
  have leaf : ∀ fs1 n1, RD fs1 n1 → n ≤ n1 → n1 ≤ n + 1 → lfS fs1 [.tuple (crew.map .str), .tuple (slots.map .str), .bool ins] (fun z es => ∀ es', some (some (Ent.arg es)) = some (some (Ent.arg es')) → W z es') := fun fs1 n1 rd1 a b =>
    ⟨crew, slots, ins, n1, rfl, hcr, hsl, rd1, by omega, by omega, fun t fs2 n2 rd2 a2 b2 w2 s2 g2 es' e => by
      cases e
      exact h t fs2 n2 rd2 (by omega) (by omega) w2 (by omega) (by omega)⟩
  walk_at "st P9i"
  walk_at "ds P9i"
  refine ⟨n, 10, rd, hn0, by omega, rfl, by decide, by decide, fun r fs1 h0 h1 rd1 => ?_⟩
  walk_at "ds P9i"
  by_cases c : (d : Int) < 1
  · rw [if_pos c]
    exact leaf fs1 _ rd1 (by omega) (by omega)
  · rw [if_neg c]
    obtain ⟨p, hp, e1, e2⟩ := pow_step (d := d) (by omega)
    have ed : (d : Int) - 1 = ((d - 1 : Nat) : Int) := by omega
    by_cases c0 : r = 0
    · rw [if_pos c0]
      exact leaf fs1 _ rd1 (by omega) (by omega)
    · rw [if_neg c0]
      by_cases c1 : r = 1
      · rw [if_pos c1]
        refine ⟨crew, slots, ins, 0, n + 1, rfl, by omega, hcr, hsl, rd1, by omega, by show n + 1 + ((10 : Nat) : Int) < 1099511627776; omega, fun t1 fs2 n2 rd2 a2 b2 w2 s2 g2 => ?_⟩
        have b2 : n2 ≤ n + 1 + ((10 : Nat) : Int) := b2
        have s2 : siz t1 ≤ 10 := s2
        walk_at "ds P9i"
        rw [ed]
        refine ⟨crew, slots, ins, d - 1, n2, rfl, by omega, hcr, hsl, rd2, by omega, by omega, fun t2 fs3 n3 rd3 a3 b3 w3 s3 g3 => ?_⟩
        walk_at "ds P9i"
        refine ⟨crew, slots, ins, n3, rfl, hcr, hsl, rd3, by omega, by omega, fun t3 fs4 n4 rd4 a4 b4 w4 s4 g4 => ?_⟩
        walk_at "ds P9i"
        refine fun es e2 => ?_
        cases e2
        exact h (.tri "if" t1 t2 t3) fs4 n4 rd4 (by omega) (by omega) ⟨_, _, _, if_tab, con_ne, num_ne, num_ne, w2, w3, w4⟩ (by simp only [siz]; omega) (by simp only [hgt]; omega)
      · rw [if_neg c1]
        by_cases c4 : r < 4
        · rw [if_pos c4, ed]
          refine ⟨crew, slots, true, d - 1, n + 1, rfl, by omega, hcr, hsl, rd1, by omega, by omega, fun t1 fs2 n2 rd2 a2 b2 w2 s2 g2 => ?_⟩
          walk_at "ds P9i"
          refine fun es e2 => ?_
          cases e2
          exact h (.one "count" t1) fs2 n2 rd2 (by omega) (by omega) ⟨_, count_tab, con_ne, w2⟩ (by simp only [siz]; omega) (by simp only [hgt]; omega)
        · rw [if_neg c4]
          by_cases c5 : r = 4
          · rw [if_pos c5, ed]
            refine ⟨crew, slots, true, d - 1, n + 1, rfl, by omega, hcr, hsl, rd1, by omega, by omega, fun t1 fs2 n2 rd2 a2 b2 w2 s2 g2 => ?_⟩
            walk_at "ds P9i"
            refine ⟨crew, slots, true, 0, n2, rfl, by omega, hcr, hsl, rd2, by omega, by show n2 + ((10 : Nat) : Int) < 1099511627776; omega, fun t2 fs3 n3 rd3 a3 b3 w3 s3 g3 => ?_⟩
            have b3 : n3 ≤ n2 + ((10 : Nat) : Int) := b3
            have s3 : siz t2 ≤ 10 := s3
            walk_at "ds P9i"
            refine fun es e2 => ?_
            cases e2
            exact h (.two "sum" t1 t2) fs3 n3 rd3 (by omega) (by omega) ⟨_, _, sum_tab, num_ne, con_ne, w2, w3⟩ (by simp only [siz]; omega) (by simp only [hgt]; omega)
          · rw [if_neg c5]
            obtain ⟨z, e, m⟩ := at_in (ds := [PyData.str "+", .str "-", .str "*", .str "least", .str "most"]) (r := r - 5) (by omega) (by show r - 5 < ((5 : Nat) : Int); omega)
            obtain ⟨s, rfl, hs⟩ := bin_in m
            refine ⟨_, e, ?_⟩
            (try walk_at "ds P9i")
            rw [ed]
            refine ⟨crew, slots, ins, d - 1, n + 1, rfl, by omega, hcr, hsl, rd1, by omega, by omega, fun t1 fs2 n2 rd2 a2 b2 w2 s2 g2 => ?_⟩
            walk_at "ds P9i"
            rw [ed]
            refine ⟨crew, slots, ins, d - 1, n2, rfl, by omega, hcr, hsl, rd2, by omega, by omega, fun t2 fs3 n3 rd3 a3 b3 w3 s3 g3 => ?_⟩
            walk_at "ds P9i"
            refine fun es e2 => ?_
            cases e2
            exact h (.two s t1 t2) fs3 n3 rd3 (by omega) (by omega) ⟨_, _, hs, num_ne, num_ne, w2, w3⟩ (by simp only [siz]; omega) (by simp only [hgt]; omega)
theorem all_ex (B : B0 mg) {g : Addr} {gd : FuncData} (F : Fun K "_law_condition" "_law_condition" (top 28) f fd) (bF : Binds K fd ["_law_reader_here", "_law_crew", "_law_slots", "_law_inside", "_law_deep"] []) (mF : mg "_law_condition" = some (.ref f))
    (G : Fun K "_law_number" "_law_number" (top 29) g gd) (bG : Binds K gd ["_law_reader_here", "_law_crew", "_law_slots", "_law_inside", "_law_deep"] []) (mG : mg "_law_number" = some (.ref g))
    (h__law_draw : Has P w K mg base "_law_draw" k ["_law_reader_here", "_law_many"] (spF K drS)) (h__law_leaf : Has P w K mg base "_law_leaf" k ["_law_reader_here", "_law_crew", "_law_slots", "_law_inside"] (spF K lfS)) :
    ∀ N : Nat, Has P w K mg base "_law_condition" (k + N) ["_law_reader_here", "_law_crew", "_law_slots", "_law_inside", "_law_deep"] (spF K (exS "condition" N)) ∧ Has P w K mg base "_law_number" (k + N) ["_law_reader_here", "_law_crew", "_law_slots", "_law_inside", "_law_deep"] (spF K (exS "number" N))
  | 0 => by
    have no : ∀ kd vs H Q E, ¬ spF K (exS kd 0) vs H Q E := fun kd vs H Q E ⟨D, a, xs, ds, vs', ds', _, _, _, _, _, _, _, _, _, d, _, _, h, _⟩ => Nat.not_lt_zero d h
    exact ⟨⟨f, fd, ⟨fun vs H Q E h => absurd h (no _ vs H Q E), fun A outer s H args us vs Q E _ _ _ _ h => absurd h (no _ vs H Q E)⟩, mF, F.kp, bF⟩, ⟨g, gd, ⟨fun vs H Q E h => absurd h (no _ vs H Q E), fun A outer s H args us vs Q E _ _ _ _ h => absurd h (no _ vs H Q E)⟩, mG, G.kp, bG⟩⟩
  | N + 1 => by
    obtain ⟨a, b⟩ := all_ex B F bF mF G bG mG h__law_draw h__law_leaf N
    exact ⟨⟨f, fd, ok__law_condition B F (h__law_draw.mono (Nat.le_add_right _ _)) (h__law_leaf.mono (Nat.le_add_right _ _)) a b, mF, F.kp, bF⟩, ⟨g, gd, ok__law_number B G (h__law_draw.mono (Nat.le_add_right _ _)) (h__law_leaf.mono (Nat.le_add_right _ _)) a b, mG, G.kp, bG⟩⟩
end
end T9

set_option Elab.async false
set_option linter.all false
set_option maxRecDepth 100000
namespace T9
open PySem PySem.Spec PyProof.Rows L2 DL
theorem upto0 : upto 0 0 = [] := rfl
theorem upto1 : upto 0 1 = [.int 0] := rfl
theorem upto2 : upto 0 2 = [.int 0, .int 1] := rfl
local macro_rules | `(tactic| walk_at "st P9j") => `(tactic| simp only [startF, startD, List.map_cons, List.map_nil, List.cons_append, List.nil_append, List.length_cons, List.length_nil, List.replicate, Nat.reduceAdd, Nat.reduceSub])
local macro_rules | `(tactic| walk_at "ds P9j") => `(tactic| simp only [↓lcD, upto0, upto1, upto2, sc_a, Bool.not_eq_true, decide_eq_false_iff_not, ↓dSeq, ↓dIfS, ↓dRet, ↓dRetN, ↓dAsg, ↓dAsgO, ↓dSet_eq, ↓sc_n, ↓sc_d, ↓sc_o, ↓sc_y, ↓dDrop, ↓dAsgG, ↓dgTup, ↓dgCons, ↓dgName, ↓dgNil, ↓dNext, ↓dBreak, ↓dCont, ↓dVar, ↓dC, ↓dOp, ↓dTest, ↓dAnd, ↓dOr, ↓dNot, ↓dAndV, ↓dOrV, ↓dNotV, ↓dIf, ↓dIfL, ↓dNil, ↓dCons, ↓dTup, ↓dLst, ↓dFrz, ↓dCall, ↓dCallP_h, ↓dCallF_h, ↓dCallN_h, ↓hid_1, ↓dSeqOf, ↓dRange1, ↓dRange2, ↓dEnum, ↓dZip, ↓dForD, ↓forD, ↓dLcD, ↓dYes, ↓dAppend, ↓dPop, ↓dExtend, ↓dSetItem, ↓dTruO, ↓bInt, ↓bAdd, ↓dNeg, ↓bEq, ↓bNe, ↓bIs, ↓bIsNot, ↓bLt, ↓bLe, ↓bGt, ↓bGe, ↓bOrd, ↓dChain, ↓bIn, ↓bIx, ↓dIxO, ↓dLenO, ↓dNo, ↓dYesO, ↓dSlice, ↓SlD, ↓dIsi, ↓dIsi2, ↓cLen, ↓cAll, ↓cStr, ↓cInt, ↓cTuple, ↓dListOf, ↓dCat, ↓dJoin, ↓dFmt, ↓dJs, ↓dJoined, ↓dGetT, ↓dInT, ↓dRev1, ↓bRep, ↓q1_at, ↓q2_at, ↓q3_at, ↓popex, ↓atx0, ↓atx1, ↓atx2, ↓atx3, ↓reduceIte,
  wipeD, backD, isInt, cast_succ_ne, at0, at1, at2, at3, ex_some, cut1, eqvS, eqvI, shS, shI, flatD, popget, emp_app, down0, down1, down2, down3, List.dropLast_concat, List.all_cons, List.all_nil, Bool.and_true, decide_eq_true_eq, isTy, isNone, startD, startF, List.map_cons, List.map_nil, List.length_cons, List.length_nil, List.nil_append, List.cons_append, List.replicate, List.getElem?_cons_zero, List.getElem?_cons_succ, List.getElem?_nil, List.set_cons_zero, List.set_cons_succ, List.set_nil, Nat.zero_add, Nat.reduceAdd, Nat.reduceSub, Nat.reduceLT, Nat.reduceLeDiff, Int.reduceAdd, Int.reduceSub, Int.toNat_natCast, if_true, if_false, ite_true, ite_false, Bool.false_eq_true, Bool.not_true, Bool.not_false, Bool.true_eq_false, true_and, and_true, Nat.sub_self, Nat.sub_zero, Nat.reduceMul, List.replicate_zero, List.append_nil])
def hsS (b : Int) : FSpec := fun fs ds W => ∃ n : Int, (b = 100 → ds = [.int 2]) ∧ (b = 10 → ds = []) ∧ (b = 100 ∨ b = 10) ∧ RD fs n ∧ 0 ≤ n ∧ n + b < 2 ^ 40 ∧ ∀ h fs' n', RD fs' n' → n ≤ n' → n' ≤ n + b → okH h → W (encH h) fs'
theorem hsS_mono {b} : MonoF (hsS b) := fun fs ds W W' m ⟨n, a, a', b, c, e, f, h⟩ => ⟨n, a, a', b, c, e, f, fun h1 fs' n' h2 h3 h4 h5 => m _ _ (h h1 fs' n' h2 h3 h4 h5)⟩
theorem okI_small {l : Int} (h0 : -1000 ≤ l) (h1 : l ≤ 1000) : okI l := by
  show l.natAbs.log2 < 200
  have h : l.natAbs < 2 ^ 10 := by show l.natAbs < 1024; omega
  have := PySem.Flt.log2_lt_of (by decide : 0 < 10) h
  omega
theorem crew_in {z : PyData} (h : z ∈ [PyData.tuple [.str "ann", .str "bob"], .tuple [.str "a", .str "my", .str "of"], .tuple [.str "bob"], .tuple [.str "ann", .str "bob", .str "zzzzzzzz"]]) : ∃ c : List Str, z = .tuple (c.map .str) ∧ nmOk c ∧ c.length ≤ 3 := by
  simp only [List.mem_cons, List.not_mem_nil, or_false] at h
  rcases h with h | h | h | h
  · exact ⟨["ann", "bob"], h, ⟨by decide, by decide, by decide +kernel⟩, by decide⟩
  · exact ⟨["a", "my", "of"], h, ⟨by decide, by decide, by decide +kernel⟩, by decide⟩
  · exact ⟨["bob"], h, ⟨by decide, by decide, by decide +kernel⟩, by decide⟩
  · exact ⟨["ann", "bob", "zzzzzzzz"], h, ⟨by decide, by decide, by decide +kernel⟩, by decide⟩
theorem slot_in {z : PyData} (h : z ∈ [PyData.tuple [.str "pay"], .tuple [.str "my", .str "x"], .tuple [.str "age", .str "pay"], .tuple [.str "sum"]]) : ∃ c : List Str, z = .tuple (c.map .str) ∧ nmOk c ∧ ((∃ x, c = [x]) ∨ ∃ x y, c = [x, y]) := by
  simp only [List.mem_cons, List.not_mem_nil, or_false] at h
  rcases h with h | h | h | h
  · exact ⟨["pay"], h, ⟨by decide, by decide, by decide +kernel⟩, .inl ⟨_, rfl⟩⟩
  · exact ⟨["my", "x"], h, ⟨by decide, by decide, by decide +kernel⟩, .inr ⟨_, _, rfl⟩⟩
  · exact ⟨["age", "pay"], h, ⟨by decide, by decide, by decide +kernel⟩, .inr ⟨_, _, rfl⟩⟩
  · exact ⟨["sum"], h, ⟨by decide, by decide, by decide +kernel⟩, .inl ⟨_, rfl⟩⟩
theorem cut2 {ds : List PyData} (h : ds.length ≤ 2) : cutD ds none (some 2) = ds := by
  refine cutV_whole ⟨HT.sIx_none _ _, ?_⟩
  have := HT.sIx_nat ds.length ds.length 2
  rw [show (some (((2 : Nat) : Int))) = some (2 : Int) from rfl] at this
  rw [this]
  omega
theorem mkH {crew : List Str} {fields : List (Str × Int × Int)} {rules : List Tm} (hcr : nmOk crew) (hcl : crew.length ≤ 3) (fl : fields.length ≤ 3) (fn : ∀ x ∈ fields, nm50 x.1 ∧ okI x.2.1 ∧ okI x.2.2) (rl : rules.length ≤ 3) (rn : ∀ t ∈ rules, wf "condition" t ∧ siz t ≤ 100 ∧ hgt t < 50) : okH ⟨crew, fields, rules⟩ :=
  ⟨by show crew.length ≤ 50; omega, fun p hp => nm50_name (hcr.ok p hp), by show fields.length ≤ 50; omega, fn, by show rules.length ≤ 12; omega, fun t ht => ⟨⟨_, (rn t ht).1, .inr rfl⟩, (rn t ht).2⟩⟩
theorem f1 {x : Str} {a b : Int} (n : okName x = true) (h0 : -1000 ≤ a) (h1 : a ≤ 1000) (h2 : -1000 ≤ b) (h3 : b ≤ 1000) : ∀ z ∈ [(x, a, b)], nm50 z.1 ∧ okI z.2.1 ∧ okI z.2.2 := fun z hz => by
  rw [List.mem_singleton.mp hz]
  exact ⟨nm50_name n, okI_small h0 h1, okI_small h2 h3⟩
theorem f2 {x y : Str} {a b c d : Int} (n : okName x = true) (h0 : -1000 ≤ a) (h1 : a ≤ 1000) (h2 : -1000 ≤ b) (h3 : b ≤ 1000) (n' : okName y = true) (h0' : -1000 ≤ c) (h1' : c ≤ 1000) (h2' : -1000 ≤ d) (h3' : d ≤ 1000) : ∀ z ∈ [(x, a, b), (y, c, d)], nm50 z.1 ∧ okI z.2.1 ∧ okI z.2.2 := fun z hz => by
  rcases List.mem_cons.mp hz with e | e
  · exact f1 n h0 h1 h2 h3 z (List.mem_singleton.mpr e)
  · exact f1 n' h0' h1' h2' h3' z e
theorem p30 {m : Int} (h : m + 30 < 1099511627776) : m + ((10 * 3 ^ 1 : Nat) : Int) < 2 ^ 40 := h
theorem S__law_random_house : FnScope ["_law_reader_here", "_law_most", "_law_crew", "_law_slots", "_law_entries", "_law_slot", "_law_low", "_law_some", "_law_k"] ["_law_reader_here", "_law_most"] (defScope (top 26)) := ⟨rfl, rfl, rfl, by decide +kernel, rfl, by decide +kernel, by decide +kernel⟩
section
variable {P : Program} {w : World} {K : PySem.W.Frag} {mg : Str → Option Value} {base : Heap} {k : Nat} {f : Addr} {fd : FuncData}
theorem ok__law_random_house (B : B0 mg) (F : Fun K "_law_random_house" "_law_random_house" (top 26) f fd) (h__law_draw : Has P w K mg base "_law_draw" k ["_law_reader_here", "_law_many"] (spF K drS))
    (h__law_condition : Has P w K mg base "_law_condition" k ["_law_reader_here", "_law_crew", "_law_slots", "_law_inside", "_law_deep"] (spF K (exS "condition" 2))) :
    FnOk P w K mg base CX0 (k + 1) f fd ["_law_reader_here", "_law_most"] (spF K (hsS 100)) := by
  refine okF F S__law_random_house (fun fs ds Q ⟨_, e, _⟩ => by rw [e rfl]; rfl) hsS_mono fun cdv A outer s H E R hr => ⟨_, (pdss_cons (pds_set (i := 2) S__law_random_house.nd (pde_ix (pde_frz (pdl_lst (pda_cons (pde_tup (pda_cons pd_str (pda_cons pd_str pda_nil))) (pda_cons (pde_tup (pda_cons pd_str (pda_cons pd_str (pda_cons pd_str pda_nil)))) (pda_cons (pde_tup (pda_cons pd_str pda_nil)) (pda_cons (pde_tup (pda_cons pd_str (pda_cons pd_str (pda_cons pd_str pda_nil)))) pda_nil)))))) (pde_callHF 0 drS_mono h__law_draw hr (pda_cons pd_int pda_nil)))) (pdss_cons (pds_set (i := 3) S__law_random_house.nd (pde_slice (pde_ix (pde_frz (pdl_lst (pda_cons (pde_tup (pda_cons pd_str pda_nil)) (pda_cons (pde_tup (pda_cons pd_str (pda_cons pd_str pda_nil))) (pda_cons (pde_tup (pda_cons pd_str (pda_cons pd_str pda_nil))) (pda_cons (pde_tup (pda_cons pd_str pda_nil)) pda_nil)))))) (pde_callHF 0 drS_mono h__law_draw hr (pda_cons pd_int pda_nil))) pdo_none (pdo_some (pd_var 1)))) (pdss_cons (pds_setO (i := 4) S__law_random_house.nd (pdl_lst pda_nil)) (pdss_cons (pds_forD PassesOwn.never rfl (pdi_list (pd_var 3)) (pdg_name 5 S__law_random_house.nd) (pdss_cons (pds_set (i := 6) S__law_random_house.nd (pde_sub (pde_callHF 0 drS_mono h__law_draw hr (pda_cons pd_int pda_nil)) pd_int)) (pdss_one (pds_append 4 (pde_tup (pda_cons (pd_var 5) (pda_cons (pd_var 6) (pda_cons (pde_add (pd_var 6) (pde_callHF 0 drS_mono h__law_draw hr (pda_cons (pde_if (pdw_or (pdt_lt (pde_len (pd_var 2) B.len) pd_int) (pdw_or1 (pdt_lt (pde_len (pd_var 3) B.len) pd_int))).t pd_int pd_int) pda_nil))) pda_nil)))))))) (pdss_cons (pds_setLcD (i := 7) rfl S__law_random_house.nd rfl (own := [("_law_k", 8)]) (pdi_range1 rfl B.range (pda_cons (pde_callHF 0 drS_mono h__law_draw hr (pda_cons pd_int pda_nil)) pda_nil)) (blkOk (N := ["_law_reader_here", "_law_most", "_law_crew", "_law_slots", "_law_entries", "_law_slot", "_law_low", "_law_some", "_law_k"]) (sc := defScope (top 26)) rfl (by decide +kernel) (by decide +kernel) (by decide +kernel) (by decide +kernel)) (fun _ _ _ _ _ => (pdg_name 8 S__law_random_house.nd)) (fun _ _ _ _ _ => pdts_nil) (fun _ _ _ _ _ => (pde_callHF 0 exS_mono h__law_condition hr (pda_cons (pd_var 2) (pda_cons (pd_var 3) (pda_cons pd_bl (pda_cons pd_int pda_nil))))))) (pdss_one (pds_ret (pde_tup (pda_cons (pd_var 2) (pda_cons (pde_tuple (pd_var 4) B.tuple) (pda_cons (pde_tuple (pd_var 7) B.tuple) pda_nil))))))))))), ?_⟩
  rintro fs ds W ⟨n, hds, _, _, rd, hn0, hn, h⟩
  obtain rfl := hds rfl
  have hn : n + 100 < 1099511627776 := hn
  walk_at "st P9j"
  walk_at "ds P9j"
  refine ⟨n, 4, rd, hn0, by omega, rfl, by decide, by decide, fun r1 fs1 h0 h1 rd1 => ?_⟩
  walk_at "ds P9j"
  obtain ⟨z, e, m⟩ := at_in (ds := [PyData.tuple [.str "ann", .str "bob"], .tuple [.str "a", .str "my", .str "of"], .tuple [.str "bob"], .tuple [.str "ann", .str "bob", .str "zzzzzzzz"]]) h0 h1
  obtain ⟨crew, rfl, hcr, hcl⟩ := crew_in m
  refine ⟨_, e, ?_⟩
  try walk_at "ds P9j"
  refine ⟨n + 1, 4, rd1, by omega, by omega, rfl, by decide, by decide, fun r2 fs2 h2 h3 rd2 => ?_⟩
  walk_at "ds P9j"
  obtain ⟨z, e, m⟩ := at_in (ds := [PyData.tuple [.str "pay"], .tuple [.str "my", .str "x"], .tuple [.str "age", .str "pay"], .tuple [.str "sum"]]) h2 h3
  obtain ⟨slots, rfl, hsl, hss⟩ := slot_in m
  refine ⟨_, e, ?_⟩
  rcases hss with ⟨x, rfl⟩ | ⟨x, y, rfl⟩
  · simp only [List.map_cons, List.map_nil]
    rw [cut2 (by show 1 ≤ 2; decide)]
    walk_at "ds P9j"
    refine ⟨n + 1 + 1, 4, rd2, by omega, by omega, rfl, by decide, by decide, fun r3 fs3 h4 h5 rd3 => ?_⟩
    walk_at "ds P9j"
    have nx : okName x = true := hsl.ok x (by simp)
    (repeat' split) <;>
    (refine ⟨n + 1 + 1 + 1, _, rd3, by omega, by omega, rfl, by decide, by decide, fun r4 fs4 h6 h7 rd4 => ?_⟩
     walk_at "ds P9j"
     refine ⟨n + 1 + 1 + 1 + 1, 3, rd4, by omega, by omega, rfl, by decide, by decide, fun rr gs h80 h81 rdg => ?_⟩
     walk_at "ds P9j"
     refine ⟨by omega, by omega, okW_of, ?_⟩
     have hf := f1 (x := x) (a := r3 - 2) (b := r3 - 2 + r4) nx (by omega) (by omega) (by omega) (by omega)
     obtain rfl | rfl | rfl : rr = 0 ∨ rr = 1 ∨ rr = 2 := by omega
     · rw [show Int.toNat 0 = 0 from rfl, upto0]
       walk_at "ds P9j"
       refine fun es e2 => ?_
       cases e2
       exact h ⟨crew, [(x, r3 - 2, r3 - 2 + r4)], []⟩ gs _ rdg (by omega) (by omega) (mkH hcr hcl (Nat.le_of_ble_eq_true rfl) hf (by decide) (fun t ht => nomatch ht))
     · rw [show Int.toNat 1 = 1 from rfl, upto1]
       walk_at "ds P9j"
       refine ⟨crew, [x], false, 1, _, rfl, by decide, hcr, hsl, rdg, by omega, p30 (by omega), fun t1 fs6 n6 rd6 a6 b6 w6 s6 g6 => ?_⟩
       have b6 : n6 ≤ n + 1 + 1 + 1 + 1 + 1 + ((30 : Nat) : Int) := b6
       have s6 : siz t1 ≤ 30 := s6
       walk_at "ds P9j"
       refine fun es e2 => ?_
       cases e2
       exact h ⟨crew, [(x, r3 - 2, r3 - 2 + r4)], [t1]⟩ fs6 _ rd6 (by omega) (by omega) (mkH hcr hcl (Nat.le_of_ble_eq_true rfl) hf (by show 1 ≤ 3; decide) (fun t ht => by rw [List.mem_singleton.mp ht]; exact ⟨w6, by omega, by omega⟩))
     · rw [show Int.toNat 2 = 2 from rfl, upto2]
       walk_at "ds P9j"
       refine ⟨crew, [x], false, 1, _, rfl, by decide, hcr, hsl, rdg, by omega, p30 (by omega), fun t1 fs6 n6 rd6 a6 b6 w6 s6 g6 => ?_⟩
       have b6 : n6 ≤ n + 1 + 1 + 1 + 1 + 1 + ((30 : Nat) : Int) := b6
       have s6 : siz t1 ≤ 30 := s6
       walk_at "ds P9j"
       refine ⟨crew, [x], false, 1, _, rfl, by decide, hcr, hsl, rd6, by omega, p30 (by omega), fun t2 fs7 n7 rd7 a7 b7 w7 s7 g7 => ?_⟩
       have b7 : n7 ≤ n6 + ((30 : Nat) : Int) := b7
       have s7 : siz t2 ≤ 30 := s7
       walk_at "ds P9j"
       refine fun es e2 => ?_
       cases e2
       exact h ⟨crew, [(x, r3 - 2, r3 - 2 + r4)], [t1, t2]⟩ fs7 _ rd7 (by omega) (by omega) (mkH hcr hcl (Nat.le_of_ble_eq_true rfl) hf (by show 2 ≤ 3; decide) (fun t ht => by
         rcases List.mem_cons.mp ht with e | e
         · rw [e]; exact ⟨w6, by omega, by omega⟩
         · rw [List.mem_singleton.mp e]; exact ⟨w7, by omega, by omega⟩)))
  · simp only [List.map_cons, List.map_nil]
    rw [cut2 (by show 2 ≤ 2; decide)]
    walk_at "ds P9j"
    have nx : okName x = true := hsl.ok x (by simp)
    have ny : okName y = true := hsl.ok y (by simp)
    refine ⟨n + 1 + 1, 4, rd2, by omega, by omega, rfl, by decide, by decide, fun r3 fs3 h4 h5 rd3 => ?_⟩
    walk_at "ds P9j"
    (repeat' split) <;>
    (refine ⟨n + 1 + 1 + 1, _, rd3, by omega, by omega, rfl, by decide, by decide, fun r4 fs4 h6 h7 rd4 => ?_⟩
     walk_at "ds P9j"
     refine ⟨n + 1 + 1 + 1 + 1, 4, rd4, by omega, by omega, rfl, by decide, by decide, fun r5 fs5 h8 h9 rd5 => ?_⟩
     walk_at "ds P9j"
     (repeat' split) <;>
     (refine ⟨n + 1 + 1 + 1 + 1 + 1, _, rd5, by omega, by omega, rfl, by decide, by decide, fun r6 fs6' h10 h11 rd6' => ?_⟩
      walk_at "ds P9j"
      refine ⟨n + 1 + 1 + 1 + 1 + 1 + 1, 3, rd6', by omega, by omega, rfl, by decide, by decide, fun rr gs h80 h81 rdg => ?_⟩
      walk_at "ds P9j"
      refine ⟨by omega, by omega, okW_of, ?_⟩
      have hf := f2 (x := x) (y := y) (a := r3 - 2) (b := r3 - 2 + r4) (c := r5 - 2) (d := r5 - 2 + r6) nx (by omega) (by omega) (by omega) (by omega) ny (by omega) (by omega) (by omega) (by omega)
      obtain rfl | rfl | rfl : rr = 0 ∨ rr = 1 ∨ rr = 2 := by omega
      · rw [show Int.toNat 0 = 0 from rfl, upto0]
        walk_at "ds P9j"
        refine fun es e2 => ?_
        cases e2
        exact h ⟨crew, [(x, r3 - 2, r3 - 2 + r4), (y, r5 - 2, r5 - 2 + r6)], []⟩ gs _ rdg (by omega) (by omega) (mkH hcr hcl (Nat.le_of_ble_eq_true rfl) hf (by decide) (fun t ht => nomatch ht))
      · rw [show Int.toNat 1 = 1 from rfl, upto1]
        walk_at "ds P9j"
        refine ⟨crew, [x, y], false, 1, _, rfl, by decide, hcr, hsl, rdg, by omega, p30 (by omega), fun t1 fs6 n6 rd6 a6 b6 w6 s6 g6 => ?_⟩
        have b6 : n6 ≤ n + 1 + 1 + 1 + 1 + 1 + 1 + 1 + ((30 : Nat) : Int) := b6
        have s6 : siz t1 ≤ 30 := s6
        walk_at "ds P9j"
        refine fun es e2 => ?_
        cases e2
        exact h ⟨crew, [(x, r3 - 2, r3 - 2 + r4), (y, r5 - 2, r5 - 2 + r6)], [t1]⟩ fs6 _ rd6 (by omega) (by omega) (mkH hcr hcl (Nat.le_of_ble_eq_true rfl) hf (by show 1 ≤ 3; decide) (fun t ht => by rw [List.mem_singleton.mp ht]; exact ⟨w6, by omega, by omega⟩))
      · rw [show Int.toNat 2 = 2 from rfl, upto2]
        walk_at "ds P9j"
        refine ⟨crew, [x, y], false, 1, _, rfl, by decide, hcr, hsl, rdg, by omega, p30 (by omega), fun t1 fs6 n6 rd6 a6 b6 w6 s6 g6 => ?_⟩
        have b6 : n6 ≤ n + 1 + 1 + 1 + 1 + 1 + 1 + 1 + ((30 : Nat) : Int) := b6
        have s6 : siz t1 ≤ 30 := s6
        walk_at "ds P9j"
        refine ⟨crew, [x, y], false, 1, _, rfl, by decide, hcr, hsl, rd6, by omega, p30 (by omega), fun t2 fs7 n7 rd7 a7 b7 w7 s7 g7 => ?_⟩
        have b7 : n7 ≤ n6 + ((30 : Nat) : Int) := b7
        have s7 : siz t2 ≤ 30 := s7
        walk_at "ds P9j"
        refine fun es e2 => ?_
        cases e2
        exact h ⟨crew, [(x, r3 - 2, r3 - 2 + r4), (y, r5 - 2, r5 - 2 + r6)], [t1, t2]⟩ fs7 _ rd7 (by omega) (by omega) (mkH hcr hcl (Nat.le_of_ble_eq_true rfl) hf (by show 2 ≤ 3; decide) (fun t ht => by
          rcases List.mem_cons.mp ht with e | e
          · rw [e]; exact ⟨w6, by omega, by omega⟩
          · rw [List.mem_singleton.mp e]; exact ⟨w7, by omega, by omega⟩))))
end
end T9

set_option Elab.async false
set_option linter.all false
set_option maxRecDepth 100000
namespace T9
open PySem PySem.Spec PyProof.Rows L2 DL
local macro_rules | `(tactic| walk_at "st P9k") => `(tactic| simp only [startF, startD, List.map_cons, List.map_nil, List.cons_append, List.nil_append, List.length_cons, List.length_nil, List.replicate, Nat.reduceAdd, Nat.reduceSub])
local macro_rules | `(tactic| walk_at "ds P9k") => `(tactic| simp only [↓lcD, upto0, upto1, upto2, sc_a, Bool.not_eq_true, decide_eq_false_iff_not, ↓dSeq, ↓dIfS, ↓dRet, ↓dRetN, ↓dAsg, ↓dAsgO, ↓dSet_eq, ↓sc_n, ↓sc_d, ↓sc_o, ↓sc_y, ↓dDrop, ↓dAsgG, ↓dgTup, ↓dgCons, ↓dgName, ↓dgNil, ↓dNext, ↓dBreak, ↓dCont, ↓dVar, ↓dC, ↓dOp, ↓dTest, ↓dAnd, ↓dOr, ↓dNot, ↓dAndV, ↓dOrV, ↓dNotV, ↓dIf, ↓dIfL, ↓dNil, ↓dCons, ↓dTup, ↓dLst, ↓dFrz, ↓dCall, ↓dCallP_h, ↓dCallF_h, ↓dCallN_h, ↓hid_1, ↓dSeqOf, ↓dRange1, ↓dRange2, ↓dEnum, ↓dZip, ↓dForD, ↓forD, ↓dLcD, ↓dYes, ↓dAppend, ↓dPop, ↓dExtend, ↓dSetItem, ↓dTruO, ↓bInt, ↓bAdd, ↓dNeg, ↓bEq, ↓bNe, ↓bIs, ↓bIsNot, ↓bLt, ↓bLe, ↓bGt, ↓bGe, ↓bOrd, ↓dChain, ↓bIn, ↓bIx, ↓dIxO, ↓dLenO, ↓dNo, ↓dYesO, ↓dSlice, ↓SlD, ↓dIsi, ↓dIsi2, ↓cLen, ↓cAll, ↓cStr, ↓cInt, ↓cTuple, ↓dListOf, ↓dCat, ↓dJoin, ↓dFmt, ↓dJs, ↓dJoined, ↓dGetT, ↓dInT, ↓dRev1, ↓bRep, ↓q1_at, ↓q2_at, ↓q3_at, ↓popex, ↓atx0, ↓atx1, ↓atx2, ↓atx3, ↓reduceIte,
  wipeD, backD, isInt, cast_succ_ne, at0, at1, at2, at3, ex_some, cut1, eqvS, eqvI, shS, shI, flatD, popget, emp_app, down0, down1, down2, down3, List.dropLast_concat, List.all_cons, List.all_nil, Bool.and_true, decide_eq_true_eq, isTy, isNone, startD, startF, List.map_cons, List.map_nil, List.length_cons, List.length_nil, List.nil_append, List.cons_append, List.replicate, List.getElem?_cons_zero, List.getElem?_cons_succ, List.getElem?_nil, List.set_cons_zero, List.set_cons_succ, List.set_nil, Nat.zero_add, Nat.reduceAdd, Nat.reduceSub, Nat.reduceLT, Nat.reduceLeDiff, Int.reduceAdd, Int.reduceSub, Int.toNat_natCast, if_true, if_false, ite_true, ite_false, Bool.false_eq_true, Bool.not_true, Bool.not_false, Bool.true_eq_false, true_and, and_true, Nat.sub_self, Nat.sub_zero, Nat.reduceMul, List.replicate_zero, List.append_nil])
abbrev far : Int := 10 ^ Int.toNat 59
def ruA : Tm := .two "=" (.nam "my" ["x"]) (.num (-far))
def ruB : Tm := .one "not" (.two "<" (.nam "of" ["nobody", "no"]) (.one "count" (.two "=" (.num 0) (.num 1))))
def ruC : Tm := .two "or" (.two "=" (.num 1) (.num 1)) (.two "=" (.num 0) (.num 0))
theorem ok_num {i : Int} (h : i.natAbs.log2 < 200) : wf "number" (.num i) := ⟨rfl, h⟩
theorem eq_tab : tabOf "condition" "=" = some [("number" : Str), "number"] := by decide +kernel
theorem lt_tab : tabOf "condition" "<" = some [("number" : Str), "number"] := by decide +kernel
theorem or_tab : tabOf "condition" "or" = some [("condition" : Str), "condition"] := by decide +kernel
theorem wf_eq {a b : Tm} (ha : wf "number" a) (hb : wf "number" b) : wf "condition" (.two "=" a b) := ⟨_, _, eq_tab, num_ne, num_ne, ha, hb⟩
theorem wf_lt {a b : Tm} (ha : wf "number" a) (hb : wf "number" b) : wf "condition" (.two "<" a b) := ⟨_, _, lt_tab, num_ne, num_ne, ha, hb⟩
theorem wf_not {a : Tm} (ha : wf "condition" a) : wf "condition" (.one "not" a) := ⟨_, not_tab, con_ne, ha⟩
theorem wf_count {a : Tm} (ha : wf "condition" a) : wf "number" (.one "count" a) := ⟨_, count_tab, con_ne, ha⟩
theorem wf_sum {a b : Tm} (ha : wf "number" a) (hb : wf "condition" b) : wf "number" (.two "sum" a b) := ⟨_, _, sum_tab, num_ne, con_ne, ha, hb⟩
def okT (t : Tm) : Prop := wf "condition" t ∧ siz t ≤ 100 ∧ hgt t < 50
theorem okA : okT ruA := ⟨wf_eq (wf_my (by decide +kernel)) (ok_num (by decide +kernel)), by decide, by decide⟩
theorem okB : okT ruB := ⟨wf_not (wf_lt (wf_of (by decide +kernel) (by decide +kernel)) (wf_count (wf_eq (ok_num (by decide)) (ok_num (by decide))))), by decide, by decide⟩
theorem okCc : okT ruC := ⟨⟨_, _, or_tab, con_ne, con_ne, wf_eq (ok_num (by decide)) (ok_num (by decide)), wf_eq (ok_num (by decide)) (ok_num (by decide))⟩, by decide, by decide⟩
def okE (x : Str × Int × Int) : Prop := nm50 x.1 ∧ okI x.2.1 ∧ okI x.2.2
theorem drop_sub {α : Type} {p : α → Prop} {l : List α} (h : ∀ x ∈ l, p x) (n : Nat) : ∀ x ∈ l.drop n, p x := fun x hx => h x (List.mem_of_mem_drop hx)
def flds : List (Str × Int × Int) := [("pay", 3, 1), ("field", -far, far), ("age", 0, -7), ("pay", 0, 0)]
theorem flds_ok : ∀ x ∈ flds, okE x := fun x hx => by
  unfold flds at hx
  simp only [List.mem_cons, List.not_mem_nil, or_false] at hx -- k09
  rcases hx with rfl | rfl | rfl | rfl
  · exact ⟨nm50_b (by decide +kernel), by show Nat.log2 _ < _; decide, by show Nat.log2 _ < _; decide⟩
  · exact ⟨nm50_b (by decide +kernel), by show Nat.log2 _ < _; decide +kernel, by show Nat.log2 _ < _; decide +kernel⟩
  · exact ⟨nm50_b (by decide +kernel), by show Nat.log2 _ < _; decide, by show Nat.log2 _ < _; decide⟩
  · exact ⟨nm50_b (by decide +kernel), by show Nat.log2 _ < _; decide, by show Nat.log2 _ < _; decide⟩
def rls : List Tm := [ruA, ruB, ruC]
theorem rls_ok : ∀ x ∈ rls, okT x := fun x hx => by
  unfold rls at hx
  simp only [List.mem_cons, List.not_mem_nil, or_false] at hx -- k09
  rcases hx with rfl | rfl | rfl
  · exact okA
  · exact okB
  · exact okCc
theorem cut_from {ds : List PyData} {r : Int} (h0 : 0 ≤ r) : DL.cutD ds (some r) none = ds.drop r.toNat := by
  have er : r = ((r.toNat : Nat) : Int) := by omega
  have e := HT.sIx_nat ds.length 0 r.toNat
  rw [← er] at e
  unfold DL.cutD
  rw [e, HT.sIx_none]
  by_cases h : r.toNat ≤ ds.length
  · rw [Nat.min_eq_left h]
    rw [List.take_of_length_le (by rw [List.length_drop]; exact Nat.le_refl _)]
  · rw [Nat.min_eq_right (by omega), List.drop_length, List.drop_eq_nil_of_le (by omega), List.take_nil]
theorem nm_all {c : List Str} (h : c.all nmb = true) : ∀ p ∈ c, nm50 p := fun p hp => nm50_b (List.all_eq_true.mp h p hp)
theorem crew2_in {z : PyData} (h : z ∈ [PyData.tuple [.str "a"], .tuple [.str "people", .str "rule"], .tuple [.str "bob", .str "cy", .str "zzzzzzzz"]]) : ∃ c : List Str, z = .tuple (c.map .str) ∧ c.length ≤ 50 ∧ ∀ p ∈ c, nm50 p := by
  simp only [List.mem_cons, List.not_mem_nil, or_false] at h
  rcases h with h | h | h
  · exact ⟨["a"], h, by decide, nm_all (by decide +kernel)⟩
  · exact ⟨["people", "rule"], h, by decide, nm_all (by decide +kernel)⟩
  · exact ⟨["bob", "cy", "zzzzzzzz"], h, by decide, nm_all (by decide +kernel)⟩
theorem mkO {crew : List Str} {fields : List (Str × Int × Int)} {rules : List Tm} (h1 : crew.length ≤ 50) (h2 : ∀ p ∈ crew, nm50 p) (fl : fields.length ≤ 50) (fn : ∀ x ∈ fields, okE x) (rl : rules.length ≤ 12) (rn : ∀ t ∈ rules, okT t) : okH ⟨crew, fields, rules⟩ :=
  ⟨h1, h2, fl, fn, rl, fun t ht => ⟨⟨_, (rn t ht).1, .inr rfl⟩, (rn t ht).2⟩⟩
def okEb (x : Str × Int × Int) : Bool := nmb x.1 && (decide (x.2.1.natAbs.log2 < 200) && decide (x.2.2.natAbs.log2 < 200))
theorem okE_all {l : List (Str × Int × Int)} (h : l.all okEb = true) : ∀ x ∈ l, okE x := fun x hx => by
  have q := List.all_eq_true.mp h x hx
  unfold okEb at q
  simp only [Bool.and_eq_true, decide_eq_true_eq] at q -- k09
  exact ⟨nm50_b q.1, q.2⟩
theorem wf_of' {x y : Str} (o : (okName x && okName y) = true) : wf "number" (.nam "of" [x, y]) := wf_of (Bool.and_eq_true_iff.mp o).1 (Bool.and_eq_true_iff.mp o).2
def fx1 : Hs := ⟨["ann", "bob"], [("pay", 0, 2)], []⟩
def fx2 : Hs := ⟨["ann", "bob"], [("pay", 0, 2)], [.two "<" (.two "sum" (.nam "my" ["pay"]) (.two "=" (.num 0) (.num 0))) (.num 2)]⟩
def fx3 : Hs := ⟨["ann", "bob"], [("age", -1, 1), ("pay", 5, 6)], [.two "<" (.nam "of" ["ann", "age"]) (.nam "of" ["bob", "pay"])]⟩
def fx4 : Hs := ⟨["a", "b", "zzzzzzzz"], [("x", 0, 1)], [.one "not" (.two "=" (.one "count" (.two "=" (.nam "my" ["x"]) (.num 1))) (.num 0))]⟩
def fx5 : Hs := ⟨["count", "my", "sum"], [("of", -100, -99), ("people", 3, 3)], [.two "=" (.num 0) (.num 0), .two "<" (.nam "of" ["my", "of"]) (.num 0)]⟩
def fx6 : Hs := ⟨["bob"], [("pay", 100, 100)], []⟩
theorem one_ok {t : Tm} (h : okT t) : ∀ x ∈ [t], okT x := fun x hx => by rw [List.mem_singleton.mp hx]; exact h
theorem two_ok {t u : Tm} (h : okT t) (h' : okT u) : ∀ x ∈ [t, u], okT x := fun x hx => by
  rcases List.mem_cons.mp hx with e | e
  · rw [e]; exact h
  · rw [List.mem_singleton.mp e]; exact h'
theorem n0 {i : Int} (h : i.natAbs.log2 < 200 := by decide) : wf "number" (.num i) := ok_num h
theorem fx1_ok : okH fx1 := mkO (by decide) (nm_all (by decide +kernel)) (by decide) (okE_all (by decide +kernel)) (by decide) (fun _ h => nomatch h)
theorem fx2_ok : okH fx2 := mkO (by decide) (nm_all (by decide +kernel)) (by decide) (okE_all (by decide +kernel)) (by decide) (one_ok ⟨wf_lt (wf_sum (wf_my (by decide +kernel)) (wf_eq n0 n0)) n0, by decide, by decide⟩)
theorem fx3_ok : okH fx3 := mkO (by decide) (nm_all (by decide +kernel)) (by decide) (okE_all (by decide +kernel)) (by decide) (one_ok ⟨wf_lt (wf_of' (by decide +kernel)) (wf_of' (by decide +kernel)), by decide, by decide⟩)
theorem fx4_ok : okH fx4 := mkO (by decide) (nm_all (by decide +kernel)) (by decide) (okE_all (by decide +kernel)) (by decide) (one_ok ⟨wf_not (wf_eq (wf_count (wf_eq (wf_my (by decide +kernel)) n0)) n0), by decide, by decide⟩)
theorem fx5_ok : okH fx5 := mkO (by decide) (nm_all (by decide +kernel)) (by decide) (okE_all (by decide +kernel)) (by decide) (two_ok ⟨wf_eq n0 n0, by decide, by decide⟩ ⟨wf_lt (wf_of' (by decide +kernel)) n0, by decide, by decide⟩)
theorem fx6_ok : okH fx6 := mkO (by decide) (nm_all (by decide +kernel)) (by decide) (okE_all (by decide +kernel)) (by decide) (fun _ h => nomatch h)
theorem fxs_ok : ∀ h ∈ [fx1, fx2, fx3, fx4, fx5, fx6], okH h := fun h hx => by
  simp only [List.mem_cons, List.not_mem_nil, or_false] at hx -- k09
  rcases hx with rfl | rfl | rfl | rfl | rfl | rfl
  · exact fx1_ok
  · exact fx2_ok
  · exact fx3_ok
  · exact fx4_ok
  · exact fx5_ok
  · exact fx6_ok
theorem S__law_loose : FnScope ["_law_reader_here", "_law_far", "_law_crew", "_law_entries", "_law_some"] ["_law_reader_here"] (defScope (top 34)) := ⟨rfl, rfl, rfl, by decide +kernel, rfl, by decide +kernel, by decide +kernel⟩
theorem S__law_fixed_houses : FnScope ["_law_pay", "_law_total", "_law_two", "_law_three", "_law_odd"] [] (defScope (top 30)) := ⟨rfl, rfl, rfl, by decide +kernel, rfl, by decide +kernel, by decide +kernel⟩
def fixN : NSpec := fun ds W => ds = [] ∧ ∀ hs : List Hs, (∀ h ∈ hs, okH h) → hs.length = 6 → W (hs.map encH)
theorem fixN_mono : MonoN fixN := fun ds W W' m ⟨e, h⟩ => ⟨e, fun hs a b => m _ (h hs a b)⟩
section
variable {P : Program} {w : World} {K : PySem.W.Frag} {mg : Str → Option Value} {base : Heap} {k : Nat} {f : Addr} {fd : FuncData}
theorem ok__law_loose (B : B0 mg) (F : Fun K "_law_loose" "_law_loose" (top 34) f fd) (h__law_draw : Has P w K mg base "_law_draw" k ["_law_reader_here", "_law_many"] (spF K drS)) :
    FnOk P w K mg base CX0 (k + 1) f fd ["_law_reader_here"] (spF K (hsS 10)) := by
  refine okF F S__law_loose (fun fs ds Q ⟨_, _, e, _⟩ => by rw [e rfl]; rfl) hsS_mono fun cdv A outer s H E R hr => ⟨_, (pdss_cons (pds_set (i := 1) S__law_loose.nd (pde_pow pd_int pd_int)) (pdss_cons (pds_set (i := 2) S__law_loose.nd (pde_ix (pde_frz (pdl_lst (pda_cons (pde_tup (pda_cons pd_str pda_nil)) (pda_cons (pde_tup (pda_cons pd_str (pda_cons pd_str pda_nil))) (pda_cons (pde_tup (pda_cons pd_str (pda_cons pd_str (pda_cons pd_str pda_nil)))) pda_nil))))) (pde_callHF 0 drS_mono h__law_draw hr (pda_cons pd_int pda_nil)))) (pdss_cons (pds_set (i := 3) S__law_loose.nd (pde_slice (pde_frz (pdl_lst (pda_cons (pde_tup (pda_cons pd_str (pda_cons pd_int (pda_cons pd_int pda_nil)))) (pda_cons (pde_tup (pda_cons pd_str (pda_cons (pde_neg (pd_var 1)) (pda_cons (pd_var 1) pda_nil)))) (pda_cons (pde_tup (pda_cons pd_str (pda_cons pd_int (pda_cons (pde_neg pd_int) pda_nil)))) (pda_cons (pde_tup (pda_cons pd_str (pda_cons pd_int (pda_cons pd_int pda_nil)))) pda_nil)))))) (pdo_some (pde_callHF 0 drS_mono h__law_draw hr (pda_cons pd_int pda_nil))) pdo_none)) (pdss_cons (pds_set (i := 4) S__law_loose.nd (pde_frz (pdl_lst (pda_cons (pde_tup (pda_cons pd_str (pda_cons (pde_tup (pda_cons pd_str (pda_cons pd_str pda_nil))) (pda_cons (pde_neg (pd_var 1)) pda_nil)))) (pda_cons (pde_tup (pda_cons pd_str (pda_cons (pde_tup (pda_cons pd_str (pda_cons (pde_tup (pda_cons pd_str (pda_cons pd_str (pda_cons pd_str pda_nil)))) (pda_cons (pde_tup (pda_cons pd_str (pda_cons (pde_tup (pda_cons pd_str (pda_cons pd_int (pda_cons pd_int pda_nil)))) pda_nil))) pda_nil)))) pda_nil))) pda_nil))))) (pdss_cons (pds_set (i := 4) S__law_loose.nd (pde_frz (pdl_cat (pd_var 4) (pde_frz (pdl_lst (pda_cons (pde_tup (pda_cons pd_str (pda_cons (pde_tup (pda_cons pd_str (pda_cons pd_int (pda_cons pd_int pda_nil)))) (pda_cons (pde_tup (pda_cons pd_str (pda_cons pd_int (pda_cons pd_int pda_nil)))) pda_nil)))) pda_nil)))))) (pdss_one (pds_ret (pde_tup (pda_cons (pd_var 2) (pda_cons (pde_tuple (pd_var 3) B.tuple) (pda_cons (pde_tuple (pde_slice (pd_var 4) (pdo_some (pde_callHF 0 drS_mono h__law_draw hr (pda_cons pd_int pda_nil))) pdo_none) B.tuple) pda_nil))))))))))), ?_⟩
  rintro fs ds W ⟨n, _, hds, _, rd, hn0, hn, h⟩
  obtain rfl := hds rfl
  have hn : n + 10 < 1099511627776 := hn
  walk_at "st P9k"
  walk_at "ds P9k"
  refine ⟨⟨by decide, by decide, by decide⟩, n, 3, rd, hn0, by omega, rfl, by decide, by decide, fun r1 fs1 h0 h1 rd1 => ?_⟩
  walk_at "ds P9k"
  obtain ⟨z, e, m⟩ := at_in (ds := [PyData.tuple [.str "a"], .tuple [.str "people", .str "rule"], .tuple [.str "bob", .str "cy", .str "zzzzzzzz"]]) h0 h1
  obtain ⟨crew, rfl, c1, c2⟩ := crew2_in m
  refine ⟨_, e, ?_⟩
  try walk_at "ds P9k"
  refine ⟨n + 1, 3, rd1, by omega, by omega, rfl, by decide, by decide, fun r2 fs2 h2 h3 rd2 => ?_⟩
  walk_at "ds P9k"
  refine ⟨n + 1 + 1, 4, rd2, by omega, by omega, rfl, by decide, by decide, fun r3 fs3 h4 h5 rd3 => ?_⟩
  walk_at "ds P9k"
  refine fun es e2 => ?_
  cases e2
  rw [cut_from h2, cut_from h4]
  have q := h ⟨crew, flds.drop r2.toNat, rls.drop r3.toNat⟩ fs3 _ rd3 (by omega) (by omega) (mkO c1 c2 (by rw [List.length_drop]; show 4 - _ ≤ 50; omega) (drop_sub flds_ok _) (by rw [List.length_drop]; show 3 - _ ≤ 12; omega) (drop_sub rls_ok _))
  simp only [encH, List.map_drop] at q
  exact q
theorem ok__law_fixed_houses (F : Fun K "_law_fixed_houses" "_law_fixed_houses" (top 30) f fd) : FnOk P w K mg base CX0 (k + 1) f fd [] (spN K fixN) := by
  refine okN F S__law_fixed_houses (fun ds Q ⟨e, _⟩ => by rw [e]; rfl) fun cdv A outer s H E R hr => ⟨_, (pdn_cons (pds_set (i := 0) S__law_fixed_houses.nd (pde_tup (pda_cons (pde_tup (pda_cons pd_str (pda_cons pd_str pda_nil))) (pda_cons (pde_tup (pda_cons (pde_tup (pda_cons pd_str (pda_cons pd_int (pda_cons pd_int pda_nil)))) pda_nil)) (pda_cons (pde_tup pda_nil) pda_nil))))) (pdn_cons (pds_set (i := 1) S__law_fixed_houses.nd (pde_tup (pda_cons pd_str (pda_cons (pde_tup (pda_cons pd_str (pda_cons pd_str pda_nil))) (pda_cons (pde_tup (pda_cons pd_str (pda_cons pd_int (pda_cons pd_int pda_nil)))) pda_nil))))) (pdn_cons (pds_set (i := 2) S__law_fixed_houses.nd (pde_tup (pda_cons (pde_tup (pda_cons pd_str (pda_cons pd_str pda_nil))) (pda_cons (pde_tup (pda_cons (pde_tup (pda_cons pd_str (pda_cons (pde_neg pd_int) (pda_cons pd_int pda_nil)))) (pda_cons (pde_tup (pda_cons pd_str (pda_cons pd_int (pda_cons pd_int pda_nil)))) pda_nil))) (pda_cons (pde_tup (pda_cons (pde_tup (pda_cons pd_str (pda_cons (pde_tup (pda_cons pd_str (pda_cons pd_str (pda_cons pd_str pda_nil)))) (pda_cons (pde_tup (pda_cons pd_str (pda_cons pd_str (pda_cons pd_str pda_nil)))) pda_nil)))) pda_nil)) pda_nil))))) (pdn_cons (pds_set (i := 3) S__law_fixed_houses.nd (pde_tup (pda_cons (pde_tup (pda_cons pd_str (pda_cons pd_str (pda_cons pd_str pda_nil)))) (pda_cons (pde_tup (pda_cons (pde_tup (pda_cons pd_str (pda_cons pd_int (pda_cons pd_int pda_nil)))) pda_nil)) (pda_cons (pde_tup (pda_cons (pde_tup (pda_cons pd_str (pda_cons (pde_tup (pda_cons pd_str (pda_cons (pde_tup (pda_cons pd_str (pda_cons (pde_tup (pda_cons pd_str (pda_cons (pde_tup (pda_cons pd_str (pda_cons pd_str pda_nil))) (pda_cons pd_int pda_nil)))) pda_nil))) (pda_cons pd_int pda_nil)))) pda_nil))) pda_nil)) pda_nil))))) (pdn_cons (pds_set (i := 4) S__law_fixed_houses.nd (pde_tup (pda_cons (pde_tup (pda_cons pd_str (pda_cons pd_str (pda_cons pd_str pda_nil)))) (pda_cons (pde_tup (pda_cons (pde_tup (pda_cons pd_str (pda_cons (pde_neg pd_int) (pda_cons (pde_neg pd_int) pda_nil)))) (pda_cons (pde_tup (pda_cons pd_str (pda_cons pd_int (pda_cons pd_int pda_nil)))) pda_nil))) (pda_cons (pde_tup (pda_cons (pde_tup (pda_cons pd_str (pda_cons pd_int (pda_cons pd_int pda_nil)))) (pda_cons (pde_tup (pda_cons pd_str (pda_cons (pde_tup (pda_cons pd_str (pda_cons pd_str (pda_cons pd_str pda_nil)))) (pda_cons pd_int pda_nil)))) pda_nil))) pda_nil))))) (pdn_ret (pdl_lst (pda_cons (pd_var 0) (pda_cons (pde_tup (pda_cons (pde_ix (pd_var 0) pd_int) (pda_cons (pde_ix (pd_var 0) pd_int) (pda_cons (pde_tup (pda_cons (pde_tup (pda_cons pd_str (pda_cons (pd_var 1) (pda_cons pd_int pda_nil)))) pda_nil)) pda_nil)))) (pda_cons (pd_var 2) (pda_cons (pd_var 3) (pda_cons (pd_var 4) (pda_cons (pde_tup (pda_cons (pde_tup (pda_cons pd_str pda_nil)) (pda_cons (pde_tup (pda_cons (pde_tup (pda_cons pd_str (pda_cons pd_int (pda_cons pd_int pda_nil)))) pda_nil)) (pda_cons (pde_tup pda_nil) pda_nil)))) pda_nil))))))))))))), ?_⟩
  rintro ds W ⟨rfl, h⟩
  walk_at "st P9k"
  walk_at "ds P9k"
  exact h [fx1, fx2, fx3, fx4, fx5, fx6] fxs_ok rfl
end
end T9

set_option Elab.async false
set_option linter.all false
set_option maxRecDepth 100000
namespace T9
open PySem PySem.Spec PyProof.Rows L2 DL
def Wr (d : PyData) : Prop := d.showable = true ∧ d.depth ≤ 60 ∧ d.shown.length ≤ 16777216
theorem shownAll_map : ∀ l : List PyData, PyData.shownAll l = l.map PyData.shown
  | [] => rfl
  | d :: r => by
    show PyData.shown d :: PyData.shownAll r = _
    rw [shownAll_map r]; rfl
theorem showable_all : ∀ {l : List PyData}, (∀ d ∈ l, d.showable = true) → PyData.showableAll l = true
  | [], _ => rfl
  | d :: r, h => by
    show (PyData.showable d && PyData.showableAll r) = true
    rw [h d List.mem_cons_self, showable_all fun x hx => h x (List.mem_cons_of_mem _ hx)]
    rfl
theorem depth_all {n : Nat} : ∀ {l : List PyData}, (∀ d ∈ l, d.depth ≤ n) → PyData.depthAll l ≤ n
  | [], _ => Nat.zero_le _
  | d :: r, h => by
    show max (PyData.depth d) (PyData.depthAll r) ≤ n
    have a := h d List.mem_cons_self
    have b := depth_all (l := r) fun x hx => h x (List.mem_cons_of_mem _ hx)
    omega
structure Wl (n c : Nat) (d : PyData) : Prop where
  sh : d.showable = true
  dp : d.depth ≤ n
  ln : d.shown.length ≤ c
theorem Wl.wr {n c : Nat} {d : PyData} (h : Wl n c d) (hn : n ≤ 60) (hc : c ≤ 16777216) : Wr d := ⟨h.sh, Nat.le_trans h.dp hn, Nat.le_trans h.ln hc⟩
theorem Wl.le {n c n' c' : Nat} {d : PyData} (h : Wl n c d) (hn : n ≤ n') (hc : c ≤ c') : Wl n' c' d := ⟨h.sh, Nat.le_trans h.dp hn, Nat.le_trans h.ln hc⟩
theorem wl_tup {n c : Nat} {l : List PyData} (h : ∀ d ∈ l, Wl n c d) : Wl (n + 1) (l.length * c + 2 * l.length + 3) (.tuple l) := by
  refine ⟨showable_all fun d hd => (h d hd).sh, ?_, ?_⟩
  · show PyData.depthAll l + 1 ≤ n + 1
    have := depth_all fun d hd => (h d hd).dp
    omega
  · show (tupleText (PyData.shownAll l)).length ≤ _
    have a := tupleText_len_le (PyData.shownAll l)
    rw [shownAll_map] at a ⊢
    have b : ((l.map PyData.shown).map (·.length)).sum ≤ (l.map PyData.shown).length * c := sum_le fun x hx => by
      obtain ⟨d, hd, rfl⟩ := List.mem_map.mp hx
      exact (h d hd).ln
    rw [List.length_map] at a b
    omega
theorem wl_sum {n c : Nat} {l : List PyData} (h : ∀ d ∈ l, d.showable = true ∧ d.depth ≤ n) (hc : (l.map fun d => d.shown.length).sum + 2 * l.length + 3 ≤ c) : Wl (n + 1) c (.tuple l) := by
  refine ⟨showable_all fun d hd => (h d hd).1, ?_, ?_⟩
  · show PyData.depthAll l + 1 ≤ n + 1
    have := depth_all fun d hd => (h d hd).2
    omega
  · show (tupleText (PyData.shownAll l)).length ≤ _
    have a := tupleText_len_le (PyData.shownAll l)
    rw [shownAll_map] at a ⊢
    rw [List.map_map, List.length_map] at a
    exact Nat.le_trans a hc
theorem wl_str {x : Str} {n : Nat} (c : chOk x) (h : x.length ≤ n) : Wl 0 (10 * n + 2) (.str x) := by
  refine ⟨rfl, Nat.le_refl _, ?_⟩
  show (reprText x).length ≤ _
  have := StrLaws.reprText_len x fun c' hc => by
    have e : (16 : Nat) ^ 8 = 4294967296 := by decide -- k09
    rw [e]
    exact c c' hc
  omega
theorem wl_int {i : Int} (h : okI i) : Wl 0 201 (.int i) := by
  have h' : i.natAbs.log2 < 200 := h
  refine ⟨decide_eq_true (by omega), Nat.le_refl _, ?_⟩
  show (Str.ofString (toString i)).length ≤ 201
  exact tlen h'

theorem ch_of (s : String) : chOk (Str.ofString s) := fun c hc => by
  rw [Str.ofString_eq_toList] at hc
  have hc : c ∈ s.toList.map Char.toNat := by simpa using hc
  obtain ⟨d, _, rfl⟩ := List.mem_map.mp hc
  exact d.val.toNat_lt
theorem ch_app {a b : Str} (ha : chOk a) (hb : chOk b) : chOk (a ++ b) := fun c hc => by
  rw [Str.cps_append, Array.toList_append] at hc
  rcases List.mem_append.mp hc with e | e
  · exact ha c e
  · exact hb c e
theorem ch_join {z : Str} (hz : chOk z) : ∀ {xs : List Str}, (∀ x ∈ xs, chOk x) → chOk (Str.join z xs)
  | [], _ => fun c hc => by cases hc
  | [x], h => h x (by simp)
  | x :: y :: r, h => ch_app (ch_app (h x (by simp)) hz) (ch_join hz fun u hu => h u (List.mem_cons_of_mem _ hu))
theorem ch_J {z : Str} (hz : chOk z) {xs : List Str} (h : ∀ x ∈ xs, chOk x) : chOk (Txt.join z xs) := by
  have e := J_eq z xs
  unfold J at e
  rw [e]
  exact ch_join hz h
theorem num_ch {w : Str} {ks : List Str} (h : numTab w = some ks) : chOk w := by
  unfold numTab at h
  repeat' split at h
  all_goals first | (rename_i e; rw [e]; exact ch_of _) | cases h
theorem cond_ch {w : Str} {ks : List Str} (h : condTab w = some ks) : chOk w := by
  unfold condTab at h
  repeat' split at h
  all_goals first | (rename_i e; rw [e]; exact ch_of _) | cases h
theorem tab_ch {k w : Str} {ks : List Str} (h : tabOf k w = some ks) : chOk w := by
  unfold tabOf at h
  split at h
  · exact num_ch h
  · exact cond_ch h
theorem words_ch : ∀ {t : Tm} {k : Str}, wf k t → ∀ x ∈ wordsL t, chOk x
  | .num i, k, h, x, hx => by rw [List.mem_singleton.mp hx]; exact ch_of _
  | .nam w ns, k, h, x, hx => by
    rcases List.mem_cons.mp hx with e | e
    · rw [e]; exact tab_ch h.1
    · exact ch_name (h.2 x e)
  | .one w a, k, ⟨ka, e1, _, ha⟩, x, hx => by
    rcases List.mem_cons.mp hx with e | e
    · rw [e]; exact tab_ch e1
    · exact words_ch ha x e
  | .two w a b, k, ⟨ka, kb, e1, _, _, ha, hb⟩, x, hx => by
    rcases List.mem_cons.mp hx with e | e
    · rw [e]; exact tab_ch e1
    · rcases List.mem_append.mp e with e | e
      · exact words_ch ha x e
      · exact words_ch hb x e
  | .tri w a b c, k, ⟨ka, kb, kc, e1, _, _, _, ha, hb, hc⟩, x, hx => by
    rcases List.mem_cons.mp hx with e | e
    · rw [e]; exact tab_ch e1
    · rcases List.mem_append.mp e with e | e
      · exact words_ch ha x e
      · rcases List.mem_append.mp e with e | e
        · exact words_ch hb x e
        · exact words_ch hc x e
theorem text_ch {t : Tm} {k : Str} (h : wf k t) : chOk (textS t) := ch_J (ch_of _) (words_ch h)
theorem wr_str {x : Str} (c : chOk x) (h : x.length ≤ 1000000) : Wr (.str x) := (wl_str c h).wr (by decide) (by decide)
theorem wr_textS {t : Tm} {k : Str} (h : wf k t) (s : siz t ≤ 100) : Wr (.str (textS t)) := wr_str (text_ch h) (by have := textS_len h s; omega)
theorem line_ch {h : Hs} (o : okH h) : ∀ x ∈ linesH h, chOk x := fun x hx => by
  rcases List.mem_cons.mp hx with e | e
  · rw [e]
    exact ch_app (ch_of _) (ch_J (ch_of _) fun p hp => (o.pn p hp).2)
  · rcases List.mem_append.mp e with e | e
    · obtain ⟨f, hf, rfl⟩ := List.mem_map.mp e
      exact ch_app (ch_app (ch_app (ch_app (ch_app (ch_of _) (o.fn f hf).1.2) (ch_of _)) (ch_of _)) (ch_of _)) (ch_of _)
    · obtain ⟨t, ht, rfl⟩ := List.mem_map.mp e
      obtain ⟨⟨k, wk, _⟩, _⟩ := o.rn t ht
      exact ch_app (ch_of _) (text_ch wk)
theorem wr_houseS {h : Hs} (o : okH h) : Wr (.str (houseS h)) := wr_str (ch_J (ch_of _) (line_ch o)) (by
  have a := J_len "\n" (linesH h)
  have b := lines_sum o
  show (Txt.join "\n" (linesH h)).length ≤ _
  omega)
theorem wr_worldS {r : List (List Int)} (o : okW' r) : Wr (.str (worldS r)) := wr_str (ch_J (ch_of _) fun x hx => by
  obtain ⟨l, hl, rfl⟩ := List.mem_map.mp hx
  exact ch_J (ch_of _) fun y hy => by
    obtain ⟨i, _, rfl⟩ := List.mem_map.mp hy
    exact ch_of _) (by
  have a := J_len " " (r.map intS)
  have h1 : ((r.map intS).map (·.length)).sum ≤ (r.map intS).length * 10100 := sum_le fun x hx => by
    obtain ⟨i, hi, rfl⟩ := List.mem_map.mp hx
    exact intS_len (o.2 i hi)
  have h2 := o.1
  have h3 : (Str.ofString " ").length = 1 := rfl
  rw [List.length_map] at h1 a
  rw [h3] at a
  show (Txt.join " " (r.map intS)).length ≤ _
  omega)

theorem wl_word {w : Str} {k : Str} {ks : List Str} (h : tabOf k w = some ks) : Wl 0 82 (.str w) := (wl_str (n := 5) (tab_ch h) (tab_word h)).le (Nat.le_refl _) (by decide)
theorem wl_name {x : Str} (h : okName x = true) : Wl 0 82 (.str x) := wl_str (n := 8) (ch_name h) (name_len h)
theorem wl_enc : ∀ {t : Tm} {k : Str}, wf k t → Wl (hgt t + 1) (1000 * siz t) (enc t)
  | .num i, k, h => (wl_int h.2).le (Nat.zero_le _) (by show 201 ≤ 1000 * 1; decide)
  | .nam w ns, k, h => by
    have q := wl_tup (n := 0) (c := 82) (l := .str w :: ns.map .str) fun d hd => by
      rcases List.mem_cons.mp hd with e | e
      · rw [e]; exact wl_word h.1
      · obtain ⟨x, hx, rfl⟩ := List.mem_map.mp e
        exact wl_name (h.2 x hx)
    have l := (wf_nam h).1
    refine q.le (Nat.le_refl _) ?_
    rw [List.length_cons, List.length_map]
    show _ ≤ 1000 * 1
    omega
  | .one w a, k, ⟨ka, e1, _, ha⟩ => by
    have qa := wl_enc ha
    have qw := wl_word e1
    simp only [enc, siz, hgt]
    refine wl_sum (fun d hd => ?_) ?_
    · simp only [List.mem_cons, List.not_mem_nil, or_false] at hd
      rcases hd with e | e
      · rw [e]; exact ⟨qw.sh, Nat.zero_le _⟩
      · rw [e]; exact ⟨qa.sh, by have := qa.dp; omega⟩
    · have := qw.ln
      have := qa.ln
      simp only [List.map_cons, List.map_nil, List.sum_cons, List.sum_nil, List.length_cons, List.length_nil]
      omega
  | .two w a b, k, ⟨ka, kb, e1, _, _, ha, hb⟩ => by
    have qa := wl_enc ha
    have qb := wl_enc hb
    have qw := wl_word e1
    simp only [enc, siz, hgt]
    refine wl_sum (fun d hd => ?_) ?_
    · simp only [List.mem_cons, List.not_mem_nil, or_false] at hd
      rcases hd with e | e | e
      · rw [e]; exact ⟨qw.sh, Nat.zero_le _⟩
      · rw [e]; exact ⟨qa.sh, by have := qa.dp; omega⟩
      · rw [e]; exact ⟨qb.sh, by have := qb.dp; omega⟩
    · have := qw.ln
      have := qa.ln
      have := qb.ln
      simp only [List.map_cons, List.map_nil, List.sum_cons, List.sum_nil, List.length_cons, List.length_nil]
      omega
  | .tri w a b c, k, ⟨ka, kb, kc, e1, _, _, _, ha, hb, hc⟩ => by
    have qa := wl_enc ha
    have qb := wl_enc hb
    have qc := wl_enc hc
    have qw := wl_word e1
    simp only [enc, siz, hgt]
    refine wl_sum (fun d hd => ?_) ?_
    · simp only [List.mem_cons, List.not_mem_nil, or_false] at hd
      rcases hd with e | e | e | e
      · rw [e]; exact ⟨qw.sh, Nat.zero_le _⟩
      · rw [e]; exact ⟨qa.sh, by have := qa.dp; omega⟩
      · rw [e]; exact ⟨qb.sh, by have := qb.dp; omega⟩
      · rw [e]; exact ⟨qc.sh, by have := qc.dp; omega⟩
    · have := qw.ln
      have := qa.ln
      have := qb.ln
      have := qc.ln
      simp only [List.map_cons, List.map_nil, List.sum_cons, List.sum_nil, List.length_cons, List.length_nil]
      omega
theorem wr_enc {t : Tm} {k : Str} (h : wf k t) (s : siz t ≤ 100) (g : hgt t ≤ 40) : Wr (enc t) := (wl_enc h).wr (by omega) (by omega)
theorem wr_world {r : List (List Int)} (o : okW' r) : Wr (encW r) := by
  have row : ∀ d ∈ r.map encR, Wl 1 10200 d := fun d hd => by
    obtain ⟨l, hl, rfl⟩ := List.mem_map.mp hd
    have q := wl_tup (n := 0) (c := 201) (l := l.map .int) fun d hd => by
      obtain ⟨i, hi, rfl⟩ := List.mem_map.mp hd
      exact wl_int ((o.2 l hl).2 i hi)
    have := (o.2 l hl).1
    exact q.le (Nat.le_refl _) (by rw [List.length_map]; omega)
  have := o.1
  exact (wl_tup row).wr (by decide) (by rw [List.length_map]; omega)
theorem wr_house {h : Hs} (o : okH h) : Wr (encH h) := by
  have p : Wl 49 30000 (.tuple (h.people.map .str)) := (wl_tup (n := 0) (c := 502) fun d hd => by
    obtain ⟨x, hx, rfl⟩ := List.mem_map.mp hd
    exact wl_str (n := 50) (o.pn x hx).2 (o.pn x hx).1).le (by decide) (by have := o.p; rw [List.length_map]; omega)
  have f : Wl 49 100000 (.tuple (h.fields.map encF)) := (wl_tup (n := 1) (c := 1600) fun d hd => by
    obtain ⟨x, hx, rfl⟩ := List.mem_map.mp hd
    obtain ⟨a, b, c⟩ := o.fn x hx
    refine (wl_tup (n := 0) (c := 502) (l := [.str x.1, .int x.2.1, .int x.2.2]) fun d hd => ?_).le (by decide) (by simp only [List.length_cons, List.length_nil]; decide)
    simp only [List.mem_cons, List.not_mem_nil, or_false] at hd
    rcases hd with e | e | e
    · rw [e]; exact wl_str (n := 50) a.2 a.1
    · rw [e]; exact (wl_int b).le (by decide) (by decide)
    · rw [e]; exact (wl_int c).le (by decide) (by decide)).le (by decide) (by have := o.f; rw [List.length_map]; omega)
  have r : Wl 52 1300000 (.tuple (h.rules.map enc)) := (wl_tup (n := 51) (c := 100000) fun d hd => by
    obtain ⟨t, ht, rfl⟩ := List.mem_map.mp hd
    obtain ⟨⟨k, wk, _⟩, s, g⟩ := o.rn t ht
    exact (wl_enc wk).le (by omega) (by omega)).le (by decide) (by have := o.r; rw [List.length_map]; omega)
  refine (wl_tup (n := 52) (c := 1300000) (l := [.tuple (h.people.map .str), .tuple (h.fields.map encF), .tuple (h.rules.map enc)]) fun d hd => ?_).wr (by decide) (by simp only [List.length_cons, List.length_nil]; decide)
  simp only [List.mem_cons, List.not_mem_nil, or_false] at hd
  rcases hd with e | e | e
  · rw [e]; exact p.le (by decide) (by decide)
  · rw [e]; exact f.le (by decide) (by decide)
  · rw [e]; exact r.le (by decide) (by decide)
end T9

set_option Elab.async false
set_option linter.all false
set_option maxRecDepth 100000
namespace T9
open PySem PySem.Spec PyProof.Rows L2 DL
local macro_rules | `(tactic| walk_at "st P9l") => `(tactic| simp only [startF, startD, List.map_cons, List.map_nil, List.cons_append, List.nil_append, List.length_cons, List.length_nil, List.replicate, Nat.reduceAdd, Nat.reduceSub])
theorem cRepr_at {d : PyData} {W : PyData → Prop} : cRepr [d] W ↔ Wr d ∧ W (.str d.shown) := ⟨fun ⟨_, e, a, b, c, h⟩ => by cases e; exact ⟨⟨a, b, c⟩, h⟩, fun ⟨⟨a, b, c⟩, h⟩ => ⟨d, rfl, a, b, c, h⟩⟩
local macro_rules | `(tactic| walk_at "ds P9l") => `(tactic| simp only [↓cRepr_at, ↓bNeS, ↓bEqS, ↓dEnumT, ↓dTupleS, sc_a, Bool.not_eq_true, decide_eq_false_iff_not, ↓dSeq, ↓dIfS, ↓dRet, ↓dRetN, ↓dAsg, ↓dAsgO, ↓dSet_eq, ↓sc_n, ↓sc_d, ↓sc_o, ↓sc_y, ↓dDrop, ↓dAsgG, ↓dgTup, ↓dgCons, ↓dgName, ↓dgNil, ↓dNext, ↓dBreak, ↓dCont, ↓dVar, ↓dC, ↓dOp, ↓dTest, ↓dAnd, ↓dOr, ↓dNot, ↓dAndV, ↓dOrV, ↓dNotV, ↓dIf, ↓dIfL, ↓dNil, ↓dCons, ↓dTup, ↓dLst, ↓dFrz, ↓dCall, ↓dCallP_h, ↓dCallF_h, ↓dCallN_h, ↓hid_1, ↓dSeqOf, ↓dRange1, ↓dRange2, ↓dEnum, ↓dZip, ↓dForD, ↓forD, ↓dLcD, ↓dYes, ↓dAppend, ↓dPop, ↓dExtend, ↓dSetItem, ↓dTruO, ↓bInt, ↓bAdd, ↓dNeg, ↓bEq, ↓bNe, ↓bIs, ↓bIsNot, ↓bLt, ↓bLe, ↓bGt, ↓bGe, ↓bOrd, ↓dChain, ↓bIn, ↓bIx, ↓dIxO, ↓dLenO, ↓dNo, ↓dYesO, ↓dSlice, ↓SlD, ↓dIsi, ↓dIsi2, ↓cLen, ↓cAll, ↓cStr, ↓cInt, ↓cTuple, ↓dListOf, ↓dCat, ↓dJoin, ↓dFmt, ↓dJs, ↓dJoined, ↓dGetT, ↓dInT, ↓dRev1, ↓bRep, ↓q1_at, ↓q2_at, ↓q3_at, ↓popex, ↓atx0, ↓atx1, ↓atx2, ↓atx3, ↓reduceIte,
  wipeD, backD, isInt, cast_succ_ne, at0, at1, at2, at3, ex_some, cut1, eqvS, eqvI, shS, shI, flatD, popget, emp_app, down0, down1, down2, down3, List.dropLast_concat, List.all_cons, List.all_nil, Bool.and_true, decide_eq_true_eq, isTy, isNone, startD, startF, List.map_cons, List.map_nil, List.length_cons, List.length_nil, List.nil_append, List.cons_append, List.replicate, List.getElem?_cons_zero, List.getElem?_cons_succ, List.getElem?_nil, List.set_cons_zero, List.set_cons_succ, List.set_nil, Nat.zero_add, Nat.reduceAdd, Nat.reduceSub, Nat.reduceLT, Nat.reduceLeDiff, Int.reduceAdd, Int.reduceSub, Int.toNat_natCast, if_true, if_false, ite_true, ite_false, Bool.false_eq_true, Bool.not_true, Bool.not_false, Bool.true_eq_false, true_and, and_true, Nat.sub_self, Nat.sub_zero, Nat.reduceMul, List.replicate_zero, List.append_nil])
theorem S_law : FnScope ["_law_script", "_law_reader_here", "_law_lots", "_law_turn", "_law_home", "_law_saved", "_law_item", "_law_pool", "_law_rows", "_law_k", "_law_stand", "_law_many", "_law_j", "_law_sign"] ["_law_script"] (defScope (top 35)) := ⟨rfl, rfl, rfl, by decide +kernel, rfl, by decide +kernel, by decide +kernel⟩
theorem upto_at {lo : Int} {n j : Nat} {d : PyData} (h : (upto lo n)[j]? = some d) : j < n ∧ d = .int (lo + (j : Nat)) := by
  have hj : j < n := by
    have := (List.getElem?_eq_some_iff.mp h).1
    rw [upto_len] at this
    exact this
  rw [upto_get hj] at h
  exact ⟨hj, (Option.some.inj h).symm⟩
theorem ok_snoc {hs : List Hs} {h : Hs} (a : ∀ x ∈ hs, okH x) (b : okH h) : ∀ x ∈ hs ++ [h], okH x := fun x hx => by
  rcases List.mem_append.mp hx with e | e
  · exact a x e
  · rw [List.mem_singleton.mp e]; exact b
abbrev scr (ns : List Int) : Option Ent := some (Ent.dat (PyData.list (ns.map .int)))
def I1 (ns : List Int) (i : Nat) (Γ : DEnv) : Prop := ∃ (fs : List PyData) (n : Int) (hs : List Hs) (y3 : Option PyData), Γ = [scr ns, some (Ent.own fs), some (Ent.own (hs.map encH)), odat y3, none, none, none, none, none, none, none, none, none, none] ∧
  RD fs n ∧ 0 ≤ n ∧ n ≤ 100 * (i : Int) ∧ (∀ h ∈ hs, okH h) ∧ hs.length = 6 + i
def I2 (ns : List Int) (L : PyData) (fs : List PyData) (y3 : Option PyData) (i : Nat) (Γ : DEnv) : Prop := ∃ (y4 y5 : Option PyData), Γ = [scr ns, some (Ent.own fs), some (Ent.dat L), odat y3, odat y4, odat y5, none, none, none, none, none, none, none, none]
def I3 (ns : List Int) (X : Option Ent) (i : Nat) (Γ : DEnv) : Prop := ∃ (fs : List PyData) (n : Int) (y3 y4 y5 y6 : Option PyData), Γ = [scr ns, some (Ent.own fs), X, odat y3, odat y4, odat y5, odat y6, none, none, none, none, none, none, none] ∧
  RD fs n ∧ 0 ≤ n ∧ n ≤ 800 + 180 * (i : Int)
def I4 (ns : List Int) (X : Option Ent) (y4 y5 y6 : Option PyData) (i : Nat) (Γ : DEnv) : Prop := ∃ (fs : List PyData) (n : Int) (y3 y7 y8 y9 ya : Option PyData), Γ = [scr ns, some (Ent.own fs), X, odat y3, odat y4, odat y5, odat y6, odat y7, odat y8, odat y9, odat ya, none, none, none] ∧
  RD fs n ∧ 0 ≤ n ∧ n ≤ 4000 + 20 * (i : Int)
def I5 (ns : List Int) (X : Option Ent) (turn : PyData) (y4 y5 y6 ya : Option PyData) (b : Int) (i : Nat) (Γ : DEnv) : Prop := ∃ (fs : List PyData) (n : Int) (rows : List (List Int)) (y9 : Option PyData), Γ = [scr ns, some (Ent.own fs), X, some (Ent.dat turn), odat y4, odat y5, odat y6, some (Ent.dat (.list [PyData.int 0, .int 7, .int (-1), .int (-100), .int (10 ^ Int.toNat 59), .int 12])), some (Ent.own (rows.map encR)), odat y9, odat ya, none, none, none] ∧
  RD fs n ∧ 0 ≤ n ∧ n ≤ b + 4 * (i : Int) ∧ rows.length = i ∧ ∀ r ∈ rows, okR r
def I6 (ns : List Int) (X : Option Ent) (turn : PyData) (y4 y5 y6 ya : Option PyData) (kk : PyData) (rows : List (List Int)) (b : Int) (i : Nat) (acc : List PyData) (Γ : DEnv) : Prop := ∃ (fs : List PyData) (n : Int) (xs : List Int), Γ = [scr ns, some (Ent.own fs), X, some (Ent.dat turn), odat y4, odat y5, odat y6, some (Ent.dat (.list [PyData.int 0, .int 7, .int (-1), .int (-100), .int (10 ^ Int.toNat 59), .int 12])), some (Ent.own (rows.map encR)), some (Ent.dat kk), odat ya, none, none, none] ∧
  RD fs n ∧ 0 ≤ n ∧ n ≤ b + (i : Int) ∧ acc = xs.map .int ∧ xs.length = i ∧ ∀ x ∈ xs, okI x
theorem pool_in {z : PyData} (h : z ∈ [PyData.int 0, .int 7, .int (-1), .int (-100), .int (10 ^ Int.toNat 59), .int 12]) : ∃ i : Int, z = .int i ∧ okI i := by
  simp only [List.mem_cons, List.not_mem_nil, or_false] at h
  rcases h with h | h | h | h | h | h <;> exact ⟨_, h, by show Nat.log2 _ < _; decide +kernel⟩
theorem nm3a : nmOk ["ann", "of", "sum"] := ⟨by decide, by decide, by decide +kernel⟩
theorem nm3b : nmOk ["my", "pay", "x"] := ⟨by decide, by decide, by decide +kernel⟩
theorem odat_ne {y : Option PyData} {ds : List PyData} : odat y ≠ some (Ent.own ds) ∧ odat y ≠ some (Ent.arg ds) := by
  cases y
  · constructor <;> (intro h; cases h)
  · constructor <;> (intro h; cases h)
abbrev SG : List PyData := DL.signs (Str.ofString "abcdefghijkl")
def lets : List Str := ["a", "b", "c", "d", "e", "f", "g", "h", "i", "j", "k", "l"]
def fn12 (i : Nat) : PyData := .tuple [SG.getD i .none, .int 0, .int (i : Nat)]
def hm12 : Hs := ⟨lets, (List.range 12).map fun i => (lets.getD i "", 0, ((i : Nat) : Int)), List.replicate 12 (.two "=" (.num 1) (.num 2))⟩
theorem hm12_eq : PyData.tuple [PyData.tuple SG, PyData.tuple ((List.range SG.length).map fn12), PyData.tuple (List.replicate (Int.toNat 12) [PyData.tuple [PyData.str "=", PyData.int 1, PyData.int 2]]).flatten] = encH hm12 := by rfl
theorem hm12_ok : okH hm12 := mkO (by decide) (nm_all (by decide +kernel)) (by decide) (okE_all (by decide +kernel)) (by decide) fun t ht => by
  rw [List.eq_of_mem_replicate ht]
  exact ⟨wf_eq n0 n0, by decide, by decide⟩
def rw12 : List (List Int) := (List.range 12).map fun i => (List.replicate 6 [(0 : Int) + ((i : Nat) : Int), -((0 : Int) + ((i : Nat) : Int))]).flatten
def gn12 (i : Nat) : PyData := .tuple (List.replicate (Int.toNat 6) [PyData.int (0 + ((i : Nat) : Int)), PyData.int (-(0 + ((i : Nat) : Int)))]).flatten
theorem rw12_eq : PyData.tuple ((List.range 12).map gn12) = encW rw12 := by rfl
theorem rw12_ok : okW' rw12 := ⟨by decide, fun r hr => by
  obtain ⟨i, hi, rfl⟩ := List.mem_map.mp hr
  have hi : i < 12 := List.mem_range.mp hi
  refine ⟨by show 12 ≤ 50; decide, fun z hz => ?_⟩
  obtain ⟨l, hl, hz⟩ := List.mem_flatten.mp hz
  rw [List.eq_of_mem_replicate hl] at hz
  rcases List.mem_cons.mp hz with e | e
  · rw [e]; exact okI_small (by omega) (by omega)
  · rw [List.mem_singleton.mp e]; exact okI_small (by omega) (by omega)⟩
theorem text_m7 : textS (.num (-7)) = "-7" := by decide +kernel
theorem text_my : textS (.nam "my" ["my"]) = "my my" := by decide +kernel
section
variable {P : Program} {w : World} {K : PySem.W.Frag} {mg : Str → Option Value} {k : Nat} {f : Addr} {fd : FuncData}
abbrev exPs : List Str := ["_law_reader_here", "_law_crew", "_law_slots", "_law_inside", "_law_deep"]
theorem body_law (B : B0 mg) (hk : ∀ base : Heap,
    Has P w K mg base "_law_reader" k ["_law_script"] (spN K rdN) ∧ Has P w K mg base "_law_fixed_houses" k [] (spN K fixN) ∧ Has P w K mg base "_law_random_house" k ["_law_reader_here", "_law_most"] (spF K (hsS 100)) ∧ Has P w K mg base "_law_loose" k ["_law_reader_here"] (spF K (hsS 10)) ∧
    Has P w K mg base "house_text" k ["house"] (spP K (hS fun h => .str (houseS h))) ∧ Has P w K mg base "_law_house_text" k ["_law_home"] (spP K (hS fun h => .str (houseS h))) ∧
    Has P w K mg base "_law_number" k exPs (spF K (exS "number" 3)) ∧ Has P w K mg base "_law_condition" k exPs (spF K (exS "condition" 3)) ∧
    Has P w K mg base "expression_text" k ["expression"] (spP K (gS fun t => .str (textS t))) ∧ Has P w K mg base "_law_words" k ["_law_item"] (spN K (wdS 50)) ∧
    Has P w K mg base "world_text" k ["world"] (spP K wS) ∧ Has P w K mg base "_law_world_text" k ["_law_stand"] (spP K wS) ∧ Has P w K mg base "_law_draw" k ["_law_reader_here", "_law_many"] (spF K drS)) : LawBody P w K mg (top 35) "law" "_law_script" ["_law_script", "_law_reader_here", "_law_lots", "_law_turn", "_law_home", "_law_saved", "_law_item", "_law_pool", "_law_rows", "_law_k", "_law_stand", "_law_many", "_law_j", "_law_sign"] k f := by
  refine ⟨S_law, fun base cdv s G R hr => ?_⟩
  obtain ⟨h__law_reader, h__law_fixed_houses, h__law_random_house, h__law_loose, h_house_text, h__law_house_text, h__law_number, h__law_condition, h_expression_text, h__law_words, h_world_text, h__law_world_text, h__law_draw⟩ := hk base
  refine ⟨_, (pdss_cons (pds_setO (i := 1) S_law.nd (pdl_callH rdN_mono h__law_reader hr (pda_cons (pd_var 0) pda_nil))) (pdss_cons (pds_setO (i := 2) S_law.nd (pdl_callH0 fixN_mono h__law_fixed_houses hr)) (pdss_cons (pds_forD PassesOwn.never rfl (pdi_range1 rfl B.range (pda_cons pd_int pda_nil)) (pdg_name 3 S_law.nd) (pdss_one (pds_append 2 (pde_if (pdt_eq hr.units (pde_mod (pde_int1 (pd_var 3) B.int) pd_int) pd_int) (pde_callHF 1 hsS_mono h__law_random_house hr (pda_cons pd_int pda_nil)) (pde_callHF 1 hsS_mono h__law_loose hr pda_nil))))) (pdss_cons (pds_forD PassesOwn.never rfl (pdi_list (pd_var 2)) (pdg_name 4 S_law.nd) (pdss_cons (pds_set (i := 5) S_law.nd (pde_repr rfl hr.units (pd_var 4) B.repr)) (pdss_one (pds_if (pdw_or (pdt_neS (pde_repr rfl hr.units (pde_callH hS_mono h_house_text hr (pda_cons (pd_var 4) pda_nil)) B.repr) (pde_repr rfl hr.units (pde_callH hS_mono h__law_house_text hr (pda_cons (pd_var 4) pda_nil)) B.repr)) (pdw_or1 (pdt_neS (pde_repr rfl hr.units (pd_var 4) B.repr) (pd_var 5)))).t (pdss_one (pds_ret pd_bl)) pdss_nil)))) (pdss_cons (pds_forD PassesOwn.never rfl (pdi_range1 rfl B.range (pda_cons pd_int pda_nil)) (pdg_name 3 S_law.nd) (pdss_cons (pds_set (i := 6) S_law.nd (pde_callHF 1 exS_mono h__law_number hr (pda_cons (pde_tup (pda_cons pd_str (pda_cons pd_str (pda_cons pd_str pda_nil)))) (pda_cons (pde_tup (pda_cons pd_str (pda_cons pd_str (pda_cons pd_str pda_nil)))) (pda_cons pd_bl (pda_cons pd_int pda_nil)))))) (pdss_cons (pds_if (pdt_eq hr.units (pde_mod (pde_int1 (pd_var 3) B.int) pd_int) pd_int) (pdss_one (pds_set (i := 6) S_law.nd (pde_callHF 1 exS_mono h__law_condition hr (pda_cons (pde_tup (pda_cons pd_str (pda_cons pd_str (pda_cons pd_str pda_nil)))) (pda_cons (pde_tup (pda_cons pd_str (pda_cons pd_str (pda_cons pd_str pda_nil)))) (pda_cons pd_bl (pda_cons pd_int pda_nil))))))) pdss_nil) (pdss_cons (pds_set (i := 5) S_law.nd (pde_repr rfl hr.units (pd_var 6) B.repr)) (pdss_one (pds_if (pdw_or (pdt_neS (pde_repr rfl hr.units (pde_callH gS_mono h_expression_text hr (pda_cons (pd_var 6) pda_nil)) B.repr) (pde_repr rfl hr.units (pde_join (pde_frz (pdl_callH wdS_mono h__law_words hr (pda_cons (pd_var 6) pda_nil)))) B.repr)) (pdw_or1 (pdt_neS (pde_repr rfl hr.units (pd_var 6) B.repr) (pd_var 5)))).t (pdss_one (pds_ret pd_bl)) pdss_nil)))))) (pdss_cons (pds_forD PassesOwn.never rfl (pdi_range1 rfl B.range (pda_cons pd_int pda_nil)) (pdg_name 3 S_law.nd) (pdss_cons (pds_set (i := 7) S_law.nd (pde_frz (pdl_lst (pda_cons pd_int (pda_cons pd_int (pda_cons (pde_neg pd_int) (pda_cons (pde_neg pd_int) (pda_cons (pde_pow pd_int pd_int) (pda_cons pd_int pda_nil))))))))) (pdss_cons (pds_setO (i := 8) S_law.nd (pdl_lst pda_nil)) (pdss_cons (pds_forD PassesOwn.never rfl (pdi_range1 rfl B.range (pda_cons (pde_add pd_int (pde_callHF 1 drS_mono h__law_draw hr (pda_cons pd_int pda_nil))) pda_nil)) (pdg_name 9 S_law.nd) (pdss_one (pds_append 8 (pde_tuple (pde_frz (pdl_lcD (own := [("_law_j", 12)]) rfl S_law.nd (pdi_range1 rfl B.range (pda_cons (pde_add pd_int (pde_callHF 1 drS_mono h__law_draw hr (pda_cons pd_int pda_nil))) pda_nil)) (blkOk (N := ["_law_script", "_law_reader_here", "_law_lots", "_law_turn", "_law_home", "_law_saved", "_law_item", "_law_pool", "_law_rows", "_law_k", "_law_stand", "_law_many", "_law_j", "_law_sign"]) (sc := defScope (top 35)) rfl (by decide +kernel) (by decide +kernel) (by decide +kernel) (by decide +kernel)) (fun _ _ _ _ _ => (pdg_name 12 S_law.nd)) (fun _ _ _ _ _ => pdts_nil) (fun _ _ _ _ _ => (pde_ix (pd_var 7) (pde_callHF 1 drS_mono h__law_draw hr (pda_cons pd_int pda_nil)))))) B.tuple)))) (pdss_cons (pds_set (i := 10) S_law.nd (pde_tuple (pd_var 8) B.tuple)) (pdss_one (pds_if (pdw_or (pdt_neS (pde_repr rfl hr.units (pde_callH wS_mono h_world_text hr (pda_cons (pd_var 10) pda_nil)) B.repr) (pde_repr rfl hr.units (pde_callH wS_mono h__law_world_text hr (pda_cons (pd_var 10) pda_nil)) B.repr)) (pdw_or1 (pdt_neS (pde_repr rfl hr.units (pd_var 10) B.repr) (pde_repr rfl hr.units (pde_tuple (pd_var 8) B.tuple) B.repr)))).t (pdss_one (pds_ret pd_bl)) pdss_nil))))))) (pdss_cons (pds_set (i := 11) S_law.nd (pde_tupleS rfl pd_str B.tuple)) (pdss_cons (pds_set (i := 4) S_law.nd (pde_tup (pda_cons (pd_var 11) (pda_cons (pde_tuple (pde_frz (pdl_lcD (own := [("_law_k", 9), ("_law_sign", 13)]) rfl S_law.nd (pdi_enumT rfl B.enumerate (pda_cons (pd_var 11) pda_nil)) (blkOk (N := ["_law_script", "_law_reader_here", "_law_lots", "_law_turn", "_law_home", "_law_saved", "_law_item", "_law_pool", "_law_rows", "_law_k", "_law_stand", "_law_many", "_law_j", "_law_sign"]) (sc := defScope (top 35)) rfl (by decide +kernel) (by decide +kernel) (by decide +kernel) (by decide +kernel)) (fun _ _ _ _ _ => (pdg_tup (n := 2) rfl (pdgs_cons (pdg_name 9 S_law.nd) (pdgs_cons (pdg_name 13 S_law.nd) pdgs_nil)))) (fun _ _ _ _ _ => pdts_nil) (fun _ _ _ _ _ => (pde_tup (pda_cons (pd_var 13) (pda_cons pd_int (pda_cons (pd_var 9) pda_nil))))))) B.tuple) (pda_cons (pde_rep (pde_tup (pda_cons (pde_tup (pda_cons pd_str (pda_cons pd_int (pda_cons pd_int pda_nil)))) pda_nil)) pd_int) pda_nil))))) (pdss_cons (pds_if (pdt_neS (pde_callH hS_mono h_house_text hr (pda_cons (pd_var 4) pda_nil)) (pde_callH hS_mono h__law_house_text hr (pda_cons (pd_var 4) pda_nil))) (pdss_one (pds_ret pd_bl)) pdss_nil) (pdss_cons (pds_set (i := 10) S_law.nd (pde_tuple (pde_frz (pdl_lcD (own := [("_law_k", 9)]) rfl S_law.nd (pdi_range1 rfl B.range (pda_cons pd_int pda_nil)) (blkOk (N := ["_law_script", "_law_reader_here", "_law_lots", "_law_turn", "_law_home", "_law_saved", "_law_item", "_law_pool", "_law_rows", "_law_k", "_law_stand", "_law_many", "_law_j", "_law_sign"]) (sc := defScope (top 35)) rfl (by decide +kernel) (by decide +kernel) (by decide +kernel) (by decide +kernel)) (fun _ _ _ _ _ => (pdg_name 9 S_law.nd)) (fun _ _ _ _ _ => pdts_nil) (fun _ _ _ _ _ => (pde_rep (pde_tup (pda_cons (pd_var 9) (pda_cons (pde_neg (pd_var 9)) pda_nil))) pd_int)))) B.tuple)) (pdss_cons (pds_if (pdt_neS (pde_callH wS_mono h_world_text hr (pda_cons (pd_var 10) pda_nil)) (pde_callH wS_mono h__law_world_text hr (pda_cons (pd_var 10) pda_nil))) (pdss_one (pds_ret pd_bl)) pdss_nil) (pdss_one (pds_ret (pde_and (pde_eqS (pde_callH gS_mono h_expression_text hr (pda_cons (pde_neg pd_int) pda_nil)) pd_str) (pde_one (pde_eqS (pde_callH gS_mono h_expression_text hr (pda_cons (pde_tup (pda_cons pd_str (pda_cons pd_str pda_nil))) pda_nil)) pd_str)))))))))))))))), fun ns few => ?_⟩
  walk_at "st P9l"
  walk_at "ds P9l"
  refine ⟨ns, rfl, few, fun fs rd => ?_⟩
  walk_at "ds P9l"
  refine ⟨rfl, fun hs hok hlen => ?_⟩
  walk_at "ds P9l"
  refine ⟨by decide, by decide, ?_⟩
  refine forD_inv (I1 ns) _ 0 _ ?_ ⟨fs, 0, hs, none, rfl, rd, by decide, by decide, hok, hlen⟩ ?_
  · rintro j d e Γ N ⟨fs, n, hs, y3, rfl, rd, n0, n1, ho, hl⟩ next
    obtain ⟨hj, rfl⟩ := upto_at e
    have hj : j < 8 := hj
    walk_at "ds P9l"
    refine ⟨by decide, ?_⟩
    split
    · refine ⟨n, fun _ => rfl, fun z => absurd z (by decide), .inl rfl, rd, n0, by show n + 100 < 1099511627776; omega, fun h fs' n' rd' a b oh => ?_⟩
      walk_at "ds P9l"
      refine ⟨by rw [List.length_map]; omega, next _ ⟨fs', n', hs ++ [h], some _, by rw [List.map_append]; rfl, rd', by omega, by omega, ok_snoc ho oh, by rw [List.length_append, hl]; show 6 + (0 + j) + 1 = _; omega⟩⟩
    · refine ⟨n, fun z => absurd z (by decide), fun _ => rfl, .inr rfl, rd, n0, by show n + 10 < 1099511627776; omega, fun h fs' n' rd' a b oh => ?_⟩
      walk_at "ds P9l"
      refine ⟨by rw [List.length_map]; omega, next _ ⟨fs', n', hs ++ [h], some _, by rw [List.map_append]; rfl, rd', by omega, by omega, ok_snoc ho oh, by rw [List.length_append, hl]; show 6 + (0 + j) + 1 = _; omega⟩⟩
  rintro Γ ⟨fs, n, hs, y3, rfl, rd, n0, n1, ho, hl⟩
  have n1 : n ≤ 800 := n1
  walk_at "ds P9l"
  refine forD_inv (I2 ns (.list (hs.map encH)) fs y3) _ 0 _ ?_ ⟨none, none, rfl⟩ ?_
  · rintro j d e Γ N ⟨y4, y5, rfl⟩ next
    obtain ⟨h, hm, rfl⟩ := List.mem_map.mp (List.mem_of_getElem? e)
    have o := ho h hm
    walk_at "ds P9l"
    refine ⟨wr_house o, h, rfl, o, ?_⟩
    walk_at "ds P9l"
    refine ⟨wr_houseS o, h, rfl, o, ?_⟩
    walk_at "ds P9l"
    refine ⟨wr_houseS o, ?_⟩
    simp only [decide_true]
    walk_at "ds P9l"
    refine ⟨wr_house o, ?_⟩
    try simp only [decide_true]
    try walk_at "ds P9l"
    exact next _ ⟨some _, some _, rfl⟩
  rintro Γ ⟨y4, y5, rfl⟩
  walk_at "ds P9l"
  refine ⟨by decide, by decide, ?_⟩
  refine forD_inv (I3 ns (some (Ent.dat (.list (hs.map encH))))) _ 0 _ ?_ ⟨fs, n, y3, y4, y5, none, rfl, rd, n0, by show n ≤ 800 + 180 * ((0 : Nat) : Int); omega⟩ ?_
  · rintro j d e Γ N ⟨fs, n, y3, y4, y5, y6, rfl, rd, n0, n1⟩ next
    obtain ⟨hj, rfl⟩ := upto_at e
    have hj : j < 16 := hj
    walk_at "ds P9l"
    refine ⟨["ann", "of", "sum"], ["my", "pay", "x"], true, 2, n, rfl, by decide, nm3a, nm3b, rd, n0, by show n + ((90 : Nat) : Int) < 1099511627776; omega, fun t fs1 m1 rd1 a1 b1 wt st gt => ?_⟩
    have b1 : m1 ≤ n + ((90 : Nat) : Int) := b1
    have st : siz t ≤ 90 := st
    walk_at "ds P9l"
    refine ⟨by decide, ?_⟩
    split
    · refine ⟨["ann", "of", "sum"], ["my", "pay", "x"], true, 2, m1, rfl, by decide, nm3a, nm3b, rd1, by omega, by show m1 + ((90 : Nat) : Int) < 1099511627776; omega, fun u fs2 m2 rd2 a2 b2 wu su gu => ?_⟩
      have b2 : m2 ≤ m1 + ((90 : Nat) : Int) := b2
      have su : siz u ≤ 90 := su
      walk_at "ds P9l"
      have q1' := sum_le (words_each wu)
      have q2' := words_len wu
      have e1' : (Str.ofString " ").length = 1 := rfl
      refine ⟨wr_enc wu (by omega) (by omega), u, rfl, ⟨_, wu, .inr rfl, by omega⟩, ?_⟩
      walk_at "ds P9l"
      refine ⟨wr_textS wu (by omega), u, rfl, ⟨_, wu⟩, by omega, by omega, ?_⟩
      walk_at "ds P9l"
      refine ⟨wordsL u, .inl rfl, by rw [e1']; omega, ?_⟩
      rw [show Txt.join (Str.ofString " ") (wordsL u) = textS u from rfl]
      try walk_at "ds P9l"
      refine ⟨wr_textS wu (by omega), ?_⟩
      simp only [decide_true]
      walk_at "ds P9l"
      refine ⟨wr_enc wu (by omega) (by omega), ?_⟩
      try simp only [decide_true]
      try walk_at "ds P9l"
      exact next _ ⟨fs2, m2, some _, y4, some _, some _, rfl, rd2, by omega, by omega⟩
    · skip
      have q1' := sum_le (words_each wt)
      have q2' := words_len wt
      have e1' : (Str.ofString " ").length = 1 := rfl
      refine ⟨wr_enc wt (by omega) (by omega), t, rfl, ⟨_, wt, .inl rfl, by omega⟩, ?_⟩
      walk_at "ds P9l"
      refine ⟨wr_textS wt (by omega), t, rfl, ⟨_, wt⟩, by omega, by omega, ?_⟩
      walk_at "ds P9l"
      refine ⟨wordsL t, .inl rfl, by rw [e1']; omega, ?_⟩
      rw [show Txt.join (Str.ofString " ") (wordsL t) = textS t from rfl]
      try walk_at "ds P9l"
      refine ⟨wr_textS wt (by omega), ?_⟩
      simp only [decide_true]
      walk_at "ds P9l"
      refine ⟨wr_enc wt (by omega) (by omega), ?_⟩
      try simp only [decide_true]
      try walk_at "ds P9l"
      exact next _ ⟨fs1, m1, some _, y4, some _, some _, rfl, rd1, by omega, by omega⟩
  rintro Γ ⟨fs, n, y3, y4, y5, y6, rfl, rd, n0, n1⟩
  have n1 : n ≤ 800 + 180 * 16 := n1
  walk_at "ds P9l"
  refine ⟨by decide, by decide, ?_⟩
  refine forD_inv (I4 ns (some (Ent.dat (.list (hs.map encH)))) y4 y5 y6) _ 0 _ ?_ ⟨fs, n, y3, none, none, none, none, rfl, rd, n0, by show n ≤ 4000 + 20 * ((0 : Nat) : Int); omega⟩ ?_
  · rintro j d e Γ N ⟨fs, n, y3, y7, y8, y9, ya, rfl, rd, n0, n1⟩ next
    obtain ⟨hj, rfl⟩ := upto_at e
    have hj : j < 10 := hj
    walk_at "ds P9l"
    refine ⟨⟨by decide, by decide, by decide⟩, n, 3, rd, n0, by show n < 1099511627776; omega, rfl, by decide, by decide, fun r fs1 h0 h1 rd1 => ?_⟩
    walk_at "ds P9l"
    refine ⟨by omega, by omega, ?_⟩
    refine forD_inv (I5 ns (some (Ent.dat (.list (hs.map encH)))) (.int (0 + (j : Int))) y4 y5 y6 ya (n + 1)) _ 0 _ ?_ ⟨fs1, n + 1, [], y9, rfl, rd1, by omega, by show n + 1 ≤ n + 1 + 4 * ((0 : Nat) : Int); omega, rfl, fun _ h => nomatch h⟩ ?_
    · rintro j2 d e Γ N2 ⟨fs, m, rows, y9, rfl, rd, m0, m1, hl, ho⟩ next2
      obtain ⟨hj2, rfl⟩ := upto_at e
      have hj2 : j2 < 3 := by
        have : j2 < (1 + r).toNat := hj2
        omega
      walk_at "ds P9l"
      refine ⟨m, 3, rd, m0, by show m < 1099511627776; omega, rfl, by decide, by decide, fun r2 fs2 h2 h3 rd2 => ?_⟩
      walk_at "ds P9l"
      refine ⟨by omega, by omega, okW_of, ?_⟩
      refine lcD_inv (I6 ns (some (Ent.dat (.list (hs.map encH)))) (.int (0 + (j : Int))) y4 y5 y6 ya (.int (0 + (j2 : Int))) rows (m + 1)) _ 0 [] _ ?_ ?_ ⟨fs2, m + 1, [], rfl, rd2, by omega, by show m + 1 ≤ m + 1 + ((0 : Nat) : Int); omega, rfl, rfl, fun _ h => nomatch h⟩ ?_
      · rintro j3 d acc Γ e3 ⟨fs, q, xs, rfl, rd, q0, q1, rfl, hx, hi⟩ Y Z hY
        obtain ⟨hj3, rfl⟩ := upto_at e3
        have hj3 : j3 < 3 := by
          have : j3 < (1 + r2).toNat := hj3
          omega
        walk_at "ds P9l"
        refine ⟨q, 6, rd, q0, by show q < 1099511627776; omega, rfl, by decide, by decide, fun r3 fs3 h4 h5 rd3 => ?_⟩
        walk_at "ds P9l"
        obtain ⟨z, e, mem⟩ := at_in (ds := [PyData.int 0, .int 7, .int (-1), .int (-100), .int (10 ^ Int.toNat 59), .int 12]) h4 h5
        obtain ⟨v, rfl, hv⟩ := pool_in mem
        refine ⟨_, e, hY _ _ ⟨fs3, q + 1, xs ++ [v], rfl, rd3, by omega, by omega, by rw [List.map_append]; rfl, by rw [List.length_append, hx]; show 0 + j3 + 1 = _; omega, fun x hx => ?_⟩⟩
        rcases List.mem_append.mp hx with e | e
        · exact hi x e
        · rw [List.mem_singleton.mp e]; exact hv
      · rintro j3 acc Γ ⟨fs, q, xs, _, _, _, _, rfl, hx, _⟩ lt
        rw [upto_len] at lt
        rw [List.length_map, hx]
        omega
      · rintro acc Γ ⟨fs, q, xs, rfl, rd, q0, q1, rfl, hx, hi⟩
        have hx : xs.length = 0 + (upto 0 (1 + r2).toNat).length := hx
        rw [upto_len] at hx
        rw [upto_len] at q1
        walk_at "ds P9l"
        refine ⟨by rw [List.length_map, hl]; omega, next2 _ ⟨fs, q, rows ++ [xs], some _, by rw [List.map_append]; rfl, rd, by omega, by omega, by rw [List.length_append, hl]; show 0 + j2 + 1 = _; omega, fun x hx' => ?_⟩⟩
        rcases List.mem_append.mp hx' with e | e
        · exact ho x e
        · rw [List.mem_singleton.mp e]; exact ⟨by omega, hi⟩
    · rintro Γ ⟨fs, m, rows, y9, rfl, rd, m0, m1, hl, ho⟩
      rw [upto_len] at m1 hl
      have ok : okW' rows := ⟨by omega, ho⟩
      walk_at "ds P9l"
      refine ⟨rows, rfl, ok, ?_⟩
      walk_at "ds P9l"
      refine ⟨wr_worldS ok, rows, rfl, ok, ?_⟩
      walk_at "ds P9l"
      refine ⟨wr_worldS ok, ?_⟩
      simp only [decide_true]
      walk_at "ds P9l"
      refine ⟨wr_world ok, ?_⟩
      try walk_at "ds P9l"
      refine ⟨wr_world ok, ?_⟩
      try simp only [decide_true]
      try walk_at "ds P9l"
      exact next _ ⟨fs, m, some _, some _, some _, y9, some _, rfl, rd, by omega, by omega⟩
  rintro Γ ⟨fs, n, y3, y7, y8, y9, ya, rfl, rd, n0, n1⟩
  walk_at "ds P9l"
  refine ⟨by decide +kernel, fun v hv => ?_, ?_⟩
  · simp only [List.mem_cons, List.not_mem_nil, or_false] at hv
    rcases hv with rfl | rfl
    · exact ⟨_, rfl, fun ds => odat_ne⟩
    · exact ⟨_, rfl, fun ds => odat_ne (y := none)⟩
  refine lcD_mapA (as := List.range SG.length) (fun i => .tuple [.int (i : Nat), SG.getD i .none]) fn12 _ ?_ ?_ ?_
  · show 0 + _ ≤ _
    rw [List.length_range]
    decide +kernel
  · intro i hi Y Z hY
    walk_at "ds P9l"
    exact hY _ rfl
  walk_at "ds P9l"
  rw [hm12_eq]
  refine ⟨by simp, by decide, by decide, hm12, rfl, hm12_ok, ?_⟩
  walk_at "ds P9l"
  refine ⟨hm12, rfl, hm12_ok, ?_⟩
  walk_at "ds P9l"
  simp only [decide_true]
  walk_at "ds P9l"
  refine ⟨by decide, by decide, fun v hv => ?_, ?_⟩
  · rw [List.mem_singleton.mp hv]
    exact ⟨_, rfl, fun ds => odat_ne⟩
  refine lcD_mapA (as := List.range 12) (fun i => .int (0 + ((i : Nat) : Int))) gn12 _ (by decide) ?_ ?_
  · intro i hi Y Z hY
    walk_at "ds P9l"
    exact ⟨by simp, by decide, by decide, hY _ rfl⟩
  walk_at "ds P9l"
  rw [rw12_eq]
  refine ⟨rw12, rfl, rw12_ok, ?_⟩
  walk_at "ds P9l"
  refine ⟨rw12, rfl, rw12_ok, ?_⟩
  walk_at "ds P9l"
  simp only [decide_true]
  walk_at "ds P9l"
  refine ⟨.num (-7), rfl, ⟨"number", T9.n0, .inl rfl, by decide⟩, ?_⟩
  walk_at "ds P9l"
  rw [text_m7]
  simp only [decide_true]
  try walk_at "ds P9l"
  refine ⟨.nam "my" ["my"], rfl, ⟨"number", wf_my (by decide +kernel), .inl rfl, by decide⟩, ?_⟩
  walk_at "ds P9l"
  rw [text_my]
  simp only [decide_true]
end
end T9

set_option Elab.async false
set_option linter.all false
set_option maxRecDepth 100000
namespace T9
open PySem PySem.Spec PyProof.Rows L2 DL
structure DefAt (K : PySem.W.Frag) (x : Str) (st : Stmt) : Prop where
  ex : ∃ (f : Addr) (oc : Value) (od an : Option Addr) (sl : Array (Option Value)) (kV doc pm cd ct : Value), PySem.W.nsIn K mainGlobals x = some (some (.ref f)) ∧
    K.lookup f = some ⟨oc, od, .func (PySem.W.fnOf x x (defArgs st) (defBody st) (defScope st) .none kV doc pm an cd ct), sl⟩ ∧ PySem.W.codeIn K cd x = true ∧ PySem.W.keepIn K (.ref f) = true
theorem DefAt.mk4 {K : PySem.W.Frag} {x : Str} {st : Stmt} {f : Addr} {oc : Value} {od an : Option Addr} {sl : Array (Option Value)} {kV doc pm cd ct : Value} (a : PySem.W.nsIn K mainGlobals x = some (some (.ref f)))
    (l : K.lookup f = some ⟨oc, od, .func (PySem.W.fnOf x x (defArgs st) (defBody st) (defScope st) .none kV doc pm an cd ct), sl⟩) (c : PySem.W.codeIn K cd x = true) (k : PySem.W.keepIn K (.ref f) = true) : DefAt K x st := ⟨⟨f, oc, od, an, sl, kV, doc, pm, cd, ct, a, l, c, k⟩⟩
inductive Ents (K : PySem.W.Frag) : List DictEntry → List (Str × List Str) → Prop
  | nil : Ents K [] []
  | cons {e : DictEntry} {es : List DictEntry} {x : Str} {ks : List Str} {l : List (Str × List Str)} (k : ∃ t, e.key = .str x t) (v : ∃ (a : Addr) (o : Obj) (its : List Value) (n : Nat), e.val = .ref a ∧ K.lookup a = some o ∧ o.cls = .type "tuple" ∧ o.data = .seq its.toArray n ∧ Vals (ks.map V.str) its) (r : Ents K es l) : Ents K (e :: es) ((x, ks) :: l)
theorem Ents.mk {K : PySem.W.Frag} {e : DictEntry} {es : List DictEntry} {x : Str} {ks : List Str} {l : List (Str × List Str)} {t : Tok} {a : Addr} {o : Obj} {its : List Value} {n : Nat} (k : e.key = .str x t) (v : e.val = .ref a) (lk : K.lookup a = some o) (c : o.cls = .type "tuple") (d : o.data = .seq its.toArray n) (vs : Vals (ks.map V.str) its) (r : Ents K es l) : Ents K (e :: es) ((x, ks) :: l) :=
  .cons ⟨t, k⟩ ⟨a, o, its, n, v, lk, c, d, vs⟩ r
def findT (l : List (Str × List Str)) (z : Str) : Option PyData := (l.find? fun p => decide (z = p.1)).map fun p => tupS p.2
theorem ents_find {K : PySem.W.Frag} {z : Str} : ∀ {es : List DictEntry} {l : List (Str × List Str)}, Ents K es l → (∀ ks ∈ l.map (·.2), ks.length ≤ 1000) → ∃ r, (match es.find? (·.key.isStr z) with | some e => some (some e.val) | none => if es.any (·.refKey) then none else some none) = some r ∧ (match findT l z with
    | none => r = none
    | some y => ∃ u v, r = some u ∧ RelV v u ∧ ∀ D, DL.Dp K D v y)
  | [], _, .nil, _ => ⟨none, rfl, rfl⟩
  | e :: es, _, .cons (x := x) (ks := ks) (l := l) ⟨t, k⟩ ⟨a, o, its, n, hv, lk, c, d, vs⟩ r, few => by
    have q := ents_find (z := z) r fun ks' h => few ks' (List.mem_cons_of_mem _ h)
    by_cases h : z = x
    · subst h
      have e1 : e.key.isStr z = true := by rw [k]; show (z == z) = true; simp
      refine ⟨some e.val, by simp only [List.find?_cons, e1], ?_⟩
      have e2 : findT ((z, ks) :: l) z = some (tupS ks) := by unfold findT; rw [List.find?_cons_of_pos (by simp)]; rfl
      rw [e2]
      refine ⟨e.val, .ref a, rfl, hv.symm ▸ rfl, fun D => .tup (.inr ⟨o, its.toArray, n, lk, c, d, ?_, by simpa using vs⟩) (dpAll_strs ks)⟩
      have q1 := vs.length
      rw [List.length_map] at q1
      rw [List.size_toArray, ← q1]
      exact Nat.le_trans (few ks List.mem_cons_self) (by decide)
    · have e1 : e.key.isStr z = false := by
        rw [k]
        show (x == z) = false
        simp
        exact fun w => h w.symm
      have e2 : findT ((x, ks) :: l) z = findT l z := by unfold findT; rw [List.find?_cons_of_neg (by simp [h])]
      have e3 : e.refKey = false := by
        show (match e.key with | .ref _ => true | _ => false) = false
        rw [k]
      rw [e2]
      simp only [List.find?_cons, e1, List.any_cons, e3, Bool.false_or]
      exact q
theorem ktab_of {K : PySem.W.Frag} {w : World} {d : Addr} {es : Array DictEntry} {n : Nat} {l : List (Str × List Str)} (lk : K.lookup d = some ⟨.type "dict", none, .dict es n, #[]⟩) (lit : PySem.W.KeysLit w.params es.toList) (low : (d == sysModules) = false) (en : Ents K es.toList l) (few : ∀ ks ∈ l.map (·.2), ks.length ≤ 1000) : KTab K w d (findT l) :=
  ⟨⟨es, n, ⟨lk, lit, low⟩, fun z => by
    obtain ⟨r, e, q⟩ := ents_find (z := z) en few
    refine ⟨r, ?_, q⟩
    unfold PySem.W.nsIn
    rw [lk]
    exact e⟩⟩
def numL : List (Str × List Str) := [("of", ["name", "name"]), ("my", ["name"]), ("+", ["number", "number"]), ("-", ["number", "number"]), ("*", ["number", "number"]), ("least", ["number", "number"]), ("most", ["number", "number"]), ("if", ["condition", "number", "number"]), ("count", ["condition"]), ("sum", ["number", "condition"])]
def condL : List (Str × List Str) := [("=", ["number", "number"]), ("<", ["number", "number"]), ("and", ["condition", "condition"]), ("or", ["condition", "condition"]), ("not", ["condition"])]
theorem numL_tab : findT numL = tabN := funext fun z => by
  by_cases h0 : z = ("of" : Str)
  · subst h0; rfl
  by_cases h1 : z = ("my" : Str)
  · subst h1; rfl
  by_cases h2 : z = ("+" : Str)
  · subst h2; rfl
  by_cases h3 : z = ("-" : Str)
  · subst h3; rfl
  by_cases h4 : z = ("*" : Str)
  · subst h4; rfl
  by_cases h5 : z = ("least" : Str)
  · subst h5; rfl
  by_cases h6 : z = ("most" : Str)
  · subst h6; rfl
  by_cases h7 : z = ("if" : Str)
  · subst h7; rfl
  by_cases h8 : z = ("count" : Str)
  · subst h8; rfl
  by_cases h9 : z = ("sum" : Str)
  · subst h9; rfl
  have e1 : findT numL z = none := by
    unfold findT numL
    simp only [List.find?_cons, decide_eq_false h0, decide_eq_false h1, decide_eq_false h2, decide_eq_false h3, decide_eq_false h4, decide_eq_false h5, decide_eq_false h6, decide_eq_false h7, decide_eq_false h8, decide_eq_false h9, List.find?_nil, Option.map_none]
  have e2 : tabN z = none := by
    unfold tabN numTab
    rw [if_neg h0, if_neg h1, if_neg h2, if_neg h3, if_neg h4, if_neg h5, if_neg h6, if_neg h7, if_neg h8, if_neg h9]
    rfl
  rw [e1, e2]
theorem condL_tab : findT condL = tabC := funext fun z => by
  by_cases h0 : z = ("=" : Str)
  · subst h0; rfl
  by_cases h1 : z = ("<" : Str)
  · subst h1; rfl
  by_cases h2 : z = ("and" : Str)
  · subst h2; rfl
  by_cases h3 : z = ("or" : Str)
  · subst h3; rfl
  by_cases h4 : z = ("not" : Str)
  · subst h4; rfl
  have e1 : findT condL z = none := by
    unfold findT condL
    simp only [List.find?_cons, decide_eq_false h0, decide_eq_false h1, decide_eq_false h2, decide_eq_false h3, decide_eq_false h4, List.find?_nil, Option.map_none]
  have e2 : tabC z = none := by
    unfold tabC condTab
    rw [if_neg h0, if_neg h1, if_neg h2, if_neg h3, if_neg h4]
    rfl
  rw [e1, e2]
end T9

set_option Elab.async false
set_option linter.all false
set_option maxRecDepth 100000
namespace T9
open PySem PySem.Spec PyProof.Rows L2 DL
abbrev lawN : List Str := ["_law_script", "_law_reader_here", "_law_lots", "_law_turn", "_law_home", "_law_saved", "_law_item", "_law_pool", "_law_rows", "_law_k", "_law_stand", "_law_many", "_law_j", "_law_sign"]
theorem look {K : PySem.W.Frag} {h : Heap} (_ : K.In h) {x : Str} {v : Option Value} (a : PySem.W.nsIn K mainGlobals x = some v) : PySem.W.nsIn K mainGlobals x = some v := a
theorem look2 {K : PySem.W.Frag} {h : Heap} (_ : K.In h) (d : Addr) {o : Obj} (a : K.lookup d = some o) : K.lookup d = some o := a
structure TabAt (K : PySem.W.Frag) (w : World) (x : Str) (l : List (Str × List Str)) : Prop where
  ex : ∃ (d : Addr) (es : Array DictEntry) (n : Nat), PySem.W.nsIn K mainGlobals x = some (some (.ref d)) ∧ K.lookup d = some ⟨.type "dict", none, .dict es n, #[]⟩ ∧ PySem.W.KeysLit w.params es.toList ∧ (d == sysModules) = false ∧ Ents K es.toList l
structure StrAt (K : PySem.W.Frag) (x z : Str) : Prop where
  ex : ∃ t, PySem.W.nsIn K mainGlobals x = some (some (.str z t))
structure Top (K : PySem.W.Frag) (w : World) : Prop where
  dis_integer : DefAt K "is_integer" (top 1)
  dis_name : DefAt K "is_name" (top 2)
  dplain_parts : DefAt K "plain_parts" (top 9)
  dkinds_behind : DefAt K "kinds_behind" (top 10)
  d_kind_of : DefAt K "_kind_of" (top 11)
  d_walk : DefAt K "_walk" (top 12)
  d_kinds_in : DefAt K "_kinds_in" (top 13)
  d_fits : DefAt K "_fits" (top 14)
  d_counts : DefAt K "_counts" (top 15)
  dexpression_text : DefAt K "expression_text" (top 17)
  dhouse_text : DefAt K "house_text" (top 18)
  dworld_text : DefAt K "world_text" (top 19)
  dhouse_lines : DefAt K "house_lines" (top 20)
  dintegers_text : DefAt K "integers_text" (top 21)
  d_head : DefAt K "_head" (top 22)
  d_law_reader : DefAt K "_law_reader" (top 24)
  d_law_draw : DefAt K "_law_draw" (top 25)
  d_law_random_house : DefAt K "_law_random_house" (top 26)
  d_law_leaf : DefAt K "_law_leaf" (top 27)
  d_law_condition : DefAt K "_law_condition" (top 28)
  d_law_number : DefAt K "_law_number" (top 29)
  d_law_fixed_houses : DefAt K "_law_fixed_houses" (top 30)
  d_law_words : DefAt K "_law_words" (top 31)
  d_law_house_text : DefAt K "_law_house_text" (top 32)
  d_law_world_text : DefAt K "_law_world_text" (top 33)
  d_law_loose : DefAt K "_law_loose" (top 34)
  dlaw : DefAt K "law" (top 35)
  zint : PySem.W.nsIn K mainGlobals "int" = some none
  zbool : PySem.W.nsIn K mainGlobals "bool" = some none
  zstr : PySem.W.nsIn K mainGlobals "str" = some none
  ztuple : PySem.W.nsIn K mainGlobals "tuple" = some none
  zlist : PySem.W.nsIn K mainGlobals "list" = some none
  zlen : PySem.W.nsIn K mainGlobals "len" = some none
  zall : PySem.W.nsIn K mainGlobals "all" = some none
  zany : PySem.W.nsIn K mainGlobals "any" = some none
  zzip : PySem.W.nsIn K mainGlobals "zip" = some none
  zrange : PySem.W.nsIn K mainGlobals "range" = some none
  zreversed : PySem.W.nsIn K mainGlobals "reversed" = some none
  zenumerate : PySem.W.nsIn K mainGlobals "enumerate" = some none
  zisinstance : PySem.W.nsIn K mainGlobals "isinstance" = some none
  zrepr : PySem.W.nsIn K mainGlobals "repr" = some none
  sNAME : StrAt K "NAME" "name"
  sNUMBER : StrAt K "NUMBER" "number"
  sCONDITION : StrAt K "CONDITION" "condition"
  tNUMBERS : TabAt K w "NUMBERS" numL
  tCONDITIONS : TabAt K w "CONDITIONS" condL
theorem all_law {P : Program} {w : World} {K : PySem.W.Frag} {h : Heap} {mg : Str → Option Value} {fa : Addr} (KX : K.In h) (G : h.Ns mainGlobals mg) (hfa : mg "law" = some (.ref fa)) (T : Top K w) :
    ∃ fd : FuncData, (∀ (s : Shared) (u : Value), BindsTo s fd ⟨[u], []⟩ [("_law_script", u)]) ∧ Fun K "law" "law" (top 35) fa fd ∧ LawBody P w K mg (top 35) "law" "_law_script" lawN 51 fa := by
  have B : B0 mg := ⟨PySem.W.mg_none_of KX G T.zint, PySem.W.mg_none_of KX G T.zbool, PySem.W.mg_none_of KX G T.zstr, PySem.W.mg_none_of KX G T.ztuple, PySem.W.mg_none_of KX G T.zlist, PySem.W.mg_none_of KX G T.zlen, PySem.W.mg_none_of KX G T.zall, PySem.W.mg_none_of KX G T.zany, PySem.W.mg_none_of KX G T.zzip, PySem.W.mg_none_of KX G T.zrange, PySem.W.mg_none_of KX G T.zreversed, PySem.W.mg_none_of KX G T.zenumerate, PySem.W.mg_none_of KX G T.zisinstance, PySem.W.mg_none_of KX G T.zrepr⟩
  obtain ⟨tNAME, aNAME⟩ := T.sNAME.ex
  have g_NAME : HasStr mg "NAME" _ := ⟨tNAME, PySem.W.mg_of KX G aNAME⟩
  obtain ⟨tNUMBER, aNUMBER⟩ := T.sNUMBER.ex
  have g_NUMBER : HasStr mg "NUMBER" _ := ⟨tNUMBER, PySem.W.mg_of KX G aNUMBER⟩
  obtain ⟨tCONDITION, aCONDITION⟩ := T.sCONDITION.ex
  have g_CONDITION : HasStr mg "CONDITION" _ := ⟨tCONDITION, PySem.W.mg_of KX G aCONDITION⟩
  obtain ⟨dNUMBERS, esNUMBERS, nNUMBERS, aNUMBERS, lkNUMBERS, litNUMBERS, lowNUMBERS, enNUMBERS⟩ := T.tNUMBERS.ex
  have g_NUMBERS := PySem.W.mg_of KX G aNUMBERS
  have k_NUMBERS := ktab_of lkNUMBERS litNUMBERS lowNUMBERS enNUMBERS (by decide)
  rw [numL_tab] at k_NUMBERS
  obtain ⟨dCONDITIONS, esCONDITIONS, nCONDITIONS, aCONDITIONS, lkCONDITIONS, litCONDITIONS, lowCONDITIONS, enCONDITIONS⟩ := T.tCONDITIONS.ex
  have g_CONDITIONS := PySem.W.mg_of KX G aCONDITIONS
  have k_CONDITIONS := ktab_of lkCONDITIONS litCONDITIONS lowCONDITIONS enCONDITIONS (by decide)
  rw [condL_tab] at k_CONDITIONS
  obtain ⟨fis_integer, _, _, _, _, _, _, _, _, _, ais_integer, lis_integer, cis_integer, kis_integer⟩ := T.dis_integer.ex
  have Fis_integer := fun_mk (st := top 1) lis_integer cis_integer kis_integer
  have mis_integer := PySem.W.mg_of KX G ais_integer
  have bis_integer := Fis_integer.binds (ps := ["thing"]) fun _ _ _ _ _ _ us hl => match us, hl with | [_], _ => rfl
  obtain ⟨fis_name, _, _, _, _, _, _, _, _, _, ais_name, lis_name, cis_name, kis_name⟩ := T.dis_name.ex
  have Fis_name := fun_mk (st := top 2) lis_name cis_name kis_name
  have mis_name := PySem.W.mg_of KX G ais_name
  have bis_name := Fis_name.binds (ps := ["thing"]) fun _ _ _ _ _ _ us hl => match us, hl with | [_], _ => rfl
  obtain ⟨fplain_parts, _, _, _, _, _, _, _, _, _, aplain_parts, lplain_parts, cplain_parts, kplain_parts⟩ := T.dplain_parts.ex
  have Fplain_parts := fun_mk (st := top 9) lplain_parts cplain_parts kplain_parts
  have mplain_parts := PySem.W.mg_of KX G aplain_parts
  have bplain_parts := Fplain_parts.binds (ps := ["expression"]) fun _ _ _ _ _ _ us hl => match us, hl with | [_], _ => rfl
  obtain ⟨fkinds_behind, _, _, _, _, _, _, _, _, _, akinds_behind, lkinds_behind, ckinds_behind, kkinds_behind⟩ := T.dkinds_behind.ex
  have Fkinds_behind := fun_mk (st := top 10) lkinds_behind ckinds_behind kkinds_behind
  have mkinds_behind := PySem.W.mg_of KX G akinds_behind
  have bkinds_behind := Fkinds_behind.binds (ps := ["word", "kind"]) fun _ _ _ _ _ _ us hl => match us, hl with | [_, _], _ => rfl
  obtain ⟨f_kind_of, _, _, _, _, _, _, _, _, _, a_kind_of, l_kind_of, c_kind_of, k_kind_of⟩ := T.d_kind_of.ex
  have F_kind_of := fun_mk (st := top 11) l_kind_of c_kind_of k_kind_of
  have m_kind_of := PySem.W.mg_of KX G a_kind_of
  have b_kind_of := F_kind_of.binds (ps := ["expression"]) fun _ _ _ _ _ _ us hl => match us, hl with | [_], _ => rfl
  obtain ⟨f_walk, _, _, _, _, _, _, _, _, _, a_walk, l_walk, c_walk, k_walk⟩ := T.d_walk.ex
  have F_walk := fun_mk (st := top 12) l_walk c_walk k_walk
  have m_walk := PySem.W.mg_of KX G a_walk
  have b_walk := F_walk.binds (ps := ["thing", "kind", "house"]) fun _ _ _ _ _ _ us hl => match us, hl with | [_, _, _], _ => rfl
  obtain ⟨f_kinds_in, _, _, _, _, _, _, _, _, _, a_kinds_in, l_kinds_in, c_kinds_in, k_kinds_in⟩ := T.d_kinds_in.ex
  have F_kinds_in := fun_mk (st := top 13) l_kinds_in c_kinds_in k_kinds_in
  have m_kinds_in := PySem.W.mg_of KX G a_kinds_in
  have b_kinds_in := F_kinds_in.binds (ps := ["part", "kind"]) fun _ _ _ _ _ _ us hl => match us, hl with | [_, _], _ => rfl
  obtain ⟨f_fits, _, _, _, _, _, _, _, _, _, a_fits, l_fits, c_fits, k_fits⟩ := T.d_fits.ex
  have F_fits := fun_mk (st := top 14) l_fits c_fits k_fits
  have m_fits := PySem.W.mg_of KX G a_fits
  have b_fits := F_fits.binds (ps := ["part", "house", "counted"]) fun _ _ _ _ _ _ us hl => match us, hl with | [_, _, _], _ => rfl
  obtain ⟨f_counts, _, _, _, _, _, _, _, _, _, a_counts, l_counts, c_counts, k_counts⟩ := T.d_counts.ex
  have F_counts := fun_mk (st := top 15) l_counts c_counts k_counts
  have m_counts := PySem.W.mg_of KX G a_counts
  have b_counts := F_counts.binds (ps := ["part"]) fun _ _ _ _ _ _ us hl => match us, hl with | [_], _ => rfl
  obtain ⟨fexpression_text, _, _, _, _, _, _, _, _, _, aexpression_text, lexpression_text, cexpression_text, kexpression_text⟩ := T.dexpression_text.ex
  have Fexpression_text := fun_mk (st := top 17) lexpression_text cexpression_text kexpression_text
  have mexpression_text := PySem.W.mg_of KX G aexpression_text
  have bexpression_text := Fexpression_text.binds (ps := ["expression"]) fun _ _ _ _ _ _ us hl => match us, hl with | [_], _ => rfl
  obtain ⟨fhouse_text, _, _, _, _, _, _, _, _, _, ahouse_text, lhouse_text, chouse_text, khouse_text⟩ := T.dhouse_text.ex
  have Fhouse_text := fun_mk (st := top 18) lhouse_text chouse_text khouse_text
  have mhouse_text := PySem.W.mg_of KX G ahouse_text
  have bhouse_text := Fhouse_text.binds (ps := ["house"]) fun _ _ _ _ _ _ us hl => match us, hl with | [_], _ => rfl
  obtain ⟨fworld_text, _, _, _, _, _, _, _, _, _, aworld_text, lworld_text, cworld_text, kworld_text⟩ := T.dworld_text.ex
  have Fworld_text := fun_mk (st := top 19) lworld_text cworld_text kworld_text
  have mworld_text := PySem.W.mg_of KX G aworld_text
  have bworld_text := Fworld_text.binds (ps := ["world"]) fun _ _ _ _ _ _ us hl => match us, hl with | [_], _ => rfl
  obtain ⟨fhouse_lines, _, _, _, _, _, _, _, _, _, ahouse_lines, lhouse_lines, chouse_lines, khouse_lines⟩ := T.dhouse_lines.ex
  have Fhouse_lines := fun_mk (st := top 20) lhouse_lines chouse_lines khouse_lines
  have mhouse_lines := PySem.W.mg_of KX G ahouse_lines
  have bhouse_lines := Fhouse_lines.binds (ps := ["house"]) fun _ _ _ _ _ _ us hl => match us, hl with | [_], _ => rfl
  obtain ⟨fintegers_text, _, _, _, _, _, _, _, _, _, aintegers_text, lintegers_text, cintegers_text, kintegers_text⟩ := T.dintegers_text.ex
  have Fintegers_text := fun_mk (st := top 21) lintegers_text cintegers_text kintegers_text
  have mintegers_text := PySem.W.mg_of KX G aintegers_text
  have bintegers_text := Fintegers_text.binds (ps := ["row"]) fun _ _ _ _ _ _ us hl => match us, hl with | [_], _ => rfl
  obtain ⟨f_head, _, _, _, _, _, _, _, _, _, a_head, l_head, c_head, k_head⟩ := T.d_head.ex
  have F_head := fun_mk (st := top 22) l_head c_head k_head
  have m_head := PySem.W.mg_of KX G a_head
  have b_head := F_head.binds (ps := ["part"]) fun _ _ _ _ _ _ us hl => match us, hl with | [_], _ => rfl
  obtain ⟨f_law_reader, _, _, _, _, _, _, _, _, _, a_law_reader, l_law_reader, c_law_reader, k_law_reader⟩ := T.d_law_reader.ex
  have F_law_reader := fun_mk (st := top 24) l_law_reader c_law_reader k_law_reader
  have m_law_reader := PySem.W.mg_of KX G a_law_reader
  have b_law_reader := F_law_reader.binds (ps := ["_law_script"]) fun _ _ _ _ _ _ us hl => match us, hl with | [_], _ => rfl
  obtain ⟨f_law_draw, _, _, _, _, _, _, _, _, _, a_law_draw, l_law_draw, c_law_draw, k_law_draw⟩ := T.d_law_draw.ex
  have F_law_draw := fun_mk (st := top 25) l_law_draw c_law_draw k_law_draw
  have m_law_draw := PySem.W.mg_of KX G a_law_draw
  have b_law_draw := F_law_draw.binds (ps := ["_law_reader_here", "_law_many"]) fun _ _ _ _ _ _ us hl => match us, hl with | [_, _], _ => rfl
  obtain ⟨f_law_random_house, _, _, _, _, _, _, _, _, _, a_law_random_house, l_law_random_house, c_law_random_house, k_law_random_house⟩ := T.d_law_random_house.ex
  have F_law_random_house := fun_mk (st := top 26) l_law_random_house c_law_random_house k_law_random_house
  have m_law_random_house := PySem.W.mg_of KX G a_law_random_house
  have b_law_random_house := F_law_random_house.binds (ps := ["_law_reader_here", "_law_most"]) fun _ _ _ _ _ _ us hl => match us, hl with | [_, _], _ => rfl
  obtain ⟨f_law_leaf, _, _, _, _, _, _, _, _, _, a_law_leaf, l_law_leaf, c_law_leaf, k_law_leaf⟩ := T.d_law_leaf.ex
  have F_law_leaf := fun_mk (st := top 27) l_law_leaf c_law_leaf k_law_leaf
  have m_law_leaf := PySem.W.mg_of KX G a_law_leaf
  have b_law_leaf := F_law_leaf.binds (ps := ["_law_reader_here", "_law_crew", "_law_slots", "_law_inside"]) fun _ _ _ _ _ _ us hl => match us, hl with | [_, _, _, _], _ => rfl
  obtain ⟨f_law_condition, _, _, _, _, _, _, _, _, _, a_law_condition, l_law_condition, c_law_condition, k_law_condition⟩ := T.d_law_condition.ex
  have F_law_condition := fun_mk (st := top 28) l_law_condition c_law_condition k_law_condition
  have m_law_condition := PySem.W.mg_of KX G a_law_condition
  have b_law_condition := F_law_condition.binds (ps := ["_law_reader_here", "_law_crew", "_law_slots", "_law_inside", "_law_deep"]) fun _ _ _ _ _ _ us hl => match us, hl with | [_, _, _, _, _], _ => rfl
  obtain ⟨f_law_number, _, _, _, _, _, _, _, _, _, a_law_number, l_law_number, c_law_number, k_law_number⟩ := T.d_law_number.ex
  have F_law_number := fun_mk (st := top 29) l_law_number c_law_number k_law_number
  have m_law_number := PySem.W.mg_of KX G a_law_number
  have b_law_number := F_law_number.binds (ps := ["_law_reader_here", "_law_crew", "_law_slots", "_law_inside", "_law_deep"]) fun _ _ _ _ _ _ us hl => match us, hl with | [_, _, _, _, _], _ => rfl
  obtain ⟨f_law_fixed_houses, _, _, _, _, _, _, _, _, _, a_law_fixed_houses, l_law_fixed_houses, c_law_fixed_houses, k_law_fixed_houses⟩ := T.d_law_fixed_houses.ex
  have F_law_fixed_houses := fun_mk (st := top 30) l_law_fixed_houses c_law_fixed_houses k_law_fixed_houses
  have m_law_fixed_houses := PySem.W.mg_of KX G a_law_fixed_houses
  have b_law_fixed_houses := F_law_fixed_houses.binds (ps := []) fun _ _ _ _ _ _ us hl => match us, hl with | [], _ => rfl
  obtain ⟨f_law_words, _, _, _, _, _, _, _, _, _, a_law_words, l_law_words, c_law_words, k_law_words⟩ := T.d_law_words.ex
  have F_law_words := fun_mk (st := top 31) l_law_words c_law_words k_law_words
  have m_law_words := PySem.W.mg_of KX G a_law_words
  have b_law_words := F_law_words.binds (ps := ["_law_item"]) fun _ _ _ _ _ _ us hl => match us, hl with | [_], _ => rfl
  obtain ⟨f_law_house_text, _, _, _, _, _, _, _, _, _, a_law_house_text, l_law_house_text, c_law_house_text, k_law_house_text⟩ := T.d_law_house_text.ex
  have F_law_house_text := fun_mk (st := top 32) l_law_house_text c_law_house_text k_law_house_text
  have m_law_house_text := PySem.W.mg_of KX G a_law_house_text
  have b_law_house_text := F_law_house_text.binds (ps := ["_law_home"]) fun _ _ _ _ _ _ us hl => match us, hl with | [_], _ => rfl
  obtain ⟨f_law_world_text, _, _, _, _, _, _, _, _, _, a_law_world_text, l_law_world_text, c_law_world_text, k_law_world_text⟩ := T.d_law_world_text.ex
  have F_law_world_text := fun_mk (st := top 33) l_law_world_text c_law_world_text k_law_world_text
  have m_law_world_text := PySem.W.mg_of KX G a_law_world_text
  have b_law_world_text := F_law_world_text.binds (ps := ["_law_stand"]) fun _ _ _ _ _ _ us hl => match us, hl with | [_], _ => rfl
  obtain ⟨f_law_loose, _, _, _, _, _, _, _, _, _, a_law_loose, l_law_loose, c_law_loose, k_law_loose⟩ := T.d_law_loose.ex
  have F_law_loose := fun_mk (st := top 34) l_law_loose c_law_loose k_law_loose
  have m_law_loose := PySem.W.mg_of KX G a_law_loose
  have b_law_loose := F_law_loose.binds (ps := ["_law_reader_here"]) fun _ _ _ _ _ _ us hl => match us, hl with | [_], _ => rfl
  obtain ⟨flaw, _, _, _, _, _, _, _, _, _, alaw, llaw, claw, klaw⟩ := T.dlaw.ex
  have Flaw := fun_mk (st := top 35) llaw claw klaw
  have mlaw := PySem.W.mg_of KX G alaw
  have blaw := Flaw.binds (ps := ["_law_script"]) fun _ _ _ _ _ _ us hl => match us, hl with | [_], _ => rfl
  have his_integer : ∀ base, Has P w K mg base "is_integer" 1 ["thing"] (spP K (q1 (fun _ => True) fun d => .bool (isInt d))) := fun base => ⟨fis_integer, _, ok_is_integer (k := 0) B Fis_integer, mis_integer, kis_integer, bis_integer⟩
  have his_name : ∀ base, Has P w K mg base "is_name" 1 ["thing"] (spP K (q1 (fun d => ∀ x, d = .str x → x.length ≤ 1000000) fun d => .bool (isName d))) := fun base => ⟨fis_name, _, ok_is_name (k := 0) B Fis_name, mis_name, kis_name, bis_name⟩
  have hkinds_behind : ∀ base, Has P w K mg base "kinds_behind" 1 ["word", "kind"] (spP K (q2 (fun d e => (∃ w, d = .str w) ∧ ∃ k, e = .str k ∧ PyData.strOk k = true) fKinds)) := fun base => ⟨fkinds_behind, _, ok_kinds_behind (k := 0) Fkinds_behind g_NUMBER g_NUMBERS g_CONDITIONS k_NUMBERS k_CONDITIONS, mkinds_behind, kkinds_behind, bkinds_behind⟩
  have h_kind_of : ∀ base, Has P w K mg base "_kind_of" 3 ["expression"] (spP K (q1 Wordy fun d => .str (kindOf d))) := fun base => ⟨f_kind_of, _, ok__kind_of (k := 2) B F_kind_of g_NUMBER g_CONDITION g_CONDITIONS k_CONDITIONS, m_kind_of, k_kind_of, b_kind_of⟩
  have h_counts : ∀ base, Has P w K mg base "_counts" 2 ["part"] (spP K (q1 Wordy fun d => .bool (counts d))) := fun base => ⟨f_counts, _, ok__counts (k := 1) B F_counts, m_counts, k_counts, b_counts⟩
  have h_fits : ∀ base, Has P w K mg base "_fits" 2 ["part", "house", "counted"] (spP K (q3 (fun _ e _ => e = .none) fun _ _ _ => .bool true)) := fun base => ⟨f_fits, _, ok__fits (k := 1) B F_fits (his_integer base), m_fits, k_fits, b_fits⟩
  have h_kinds_in : ∀ base, Has P w K mg base "_kinds_in" 2 ["part", "kind"] (spP K (q2 kiC kiF)) := fun base => ⟨f_kinds_in, _, ok__kinds_in (k := 1) B F_kinds_in g_NAME g_NUMBER (his_integer base) (his_name base) (hkinds_behind base), m_kinds_in, k_kinds_in, b_kinds_in⟩
  have h_walk : ∀ base, Has P w K mg base "_walk" 3 ["thing", "kind", "house"] (spP K walkS) := fun base => ⟨f_walk, _, ok__walk (k := 2) B F_walk g_NAME (h_kinds_in base) (h_fits base) (h_counts base), m_walk, k_walk, b_walk⟩
  have hplain_parts : ∀ base, Has P w K mg base "plain_parts" 4 ["expression"] (spP K (gS fun t => .list ((pre t).map enc))) := fun base => ⟨fplain_parts, _, ok_plain_parts (k := 3) B Fplain_parts (h_walk base) (h_kind_of base), mplain_parts, kplain_parts, bplain_parts⟩
  have h_head : ∀ base, Has P w K mg base "_head" 4 ["part"] (spP K (gH fun t => .str (headS t))) := fun base => ⟨f_head, _, ok__head (k := 3) B F_head ((his_integer base).mono (by decide)), m_head, k_head, b_head⟩
  have hexpression_text : ∀ base, Has P w K mg base "expression_text" 5 ["expression"] (spP K (gS fun t => .str (textS t))) := fun base => ⟨fexpression_text, _, ok_expression_text (k := 4) B Fexpression_text (hplain_parts base) (h_head base), mexpression_text, kexpression_text, bexpression_text⟩
  have hintegers_text : ∀ base, Has P w K mg base "integers_text" 1 ["row"] (spP K rS) := fun base => ⟨fintegers_text, _, ok_integers_text (k := 0) B Fintegers_text, mintegers_text, kintegers_text, bintegers_text⟩
  have hworld_text : ∀ base, Has P w K mg base "world_text" 2 ["world"] (spP K wS) := fun base => ⟨fworld_text, _, ok_world_text (k := 1) B Fworld_text (hintegers_text base), mworld_text, kworld_text, bworld_text⟩
  have h_law_world_text : ∀ base, Has P w K mg base "_law_world_text" 1 ["_law_stand"] (spP K wS) := fun base => ⟨f_law_world_text, _, ok__law_world_text (k := 0) B F_law_world_text, m_law_world_text, k_law_world_text, b_law_world_text⟩
  have hhouse_lines : ∀ base, Has P w K mg base "house_lines" 6 ["house"] (spP K (hS fun h => .list ((linesH h).map .str))) := fun base => ⟨fhouse_lines, _, ok_house_lines (k := 5) B Fhouse_lines (hexpression_text base), mhouse_lines, khouse_lines, bhouse_lines⟩
  have hhouse_text : ∀ base, Has P w K mg base "house_text" 7 ["house"] (spP K (hS fun h => .str (houseS h))) := fun base => ⟨fhouse_text, _, ok_house_text (k := 6) Fhouse_text (hhouse_lines base), mhouse_text, khouse_text, bhouse_text⟩
  have h_law_words : ∀ base, Has P w K mg base "_law_words" 50 ["_law_item"] (spN K (wdS 50)) := fun base => all_words B F_law_words b_law_words m_law_words 50
  have h_law_house_text : ∀ base, Has P w K mg base "_law_house_text" 51 ["_law_home"] (spP K (hS fun h => .str (houseS h))) := fun base => ⟨f_law_house_text, _, ok__law_house_text (k := 50) B F_law_house_text (h_law_words base), m_law_house_text, k_law_house_text, b_law_house_text⟩
  have h_law_reader : ∀ base, Has P w K mg base "_law_reader" 1 ["_law_script"] (spN K rdN) := fun base => ⟨f_law_reader, _, ok__law_reader (k := 0) F_law_reader, m_law_reader, k_law_reader, b_law_reader⟩
  have h_law_fixed_houses : ∀ base, Has P w K mg base "_law_fixed_houses" 1 [] (spN K fixN) := fun base => ⟨f_law_fixed_houses, _, ok__law_fixed_houses (k := 0) F_law_fixed_houses, m_law_fixed_houses, k_law_fixed_houses, b_law_fixed_houses⟩
  have h_law_draw : ∀ base, Has P w K mg base "_law_draw" 1 ["_law_reader_here", "_law_many"] (spF K drS) := fun base => ⟨f_law_draw, _, ok__law_draw (k := 0) B F_law_draw, m_law_draw, k_law_draw, b_law_draw⟩
  have h_law_leaf : ∀ base, Has P w K mg base "_law_leaf" 2 ["_law_reader_here", "_law_crew", "_law_slots", "_law_inside"] (spF K lfS) := fun base => ⟨f_law_leaf, _, ok__law_leaf (k := 1) B F_law_leaf (h_law_draw base), m_law_leaf, k_law_leaf, b_law_leaf⟩
  have hex : ∀ base N, _ := fun base N => all_ex (P := P) (w := w) (base := base) (k := 2) B F_law_condition b_law_condition m_law_condition F_law_number b_law_number m_law_number ((h_law_draw base).mono (by decide)) (h_law_leaf base) N
  have h_law_random_house : ∀ base, Has P w K mg base "_law_random_house" 5 ["_law_reader_here", "_law_most"] (spF K (hsS 100)) := fun base => ⟨f_law_random_house, _, ok__law_random_house (k := 4) B F_law_random_house ((h_law_draw base).mono (by decide)) (hex base 2).1, m_law_random_house, k_law_random_house, b_law_random_house⟩
  have h_law_loose : ∀ base, Has P w K mg base "_law_loose" 2 ["_law_reader_here"] (spF K (hsS 10)) := fun base => ⟨f_law_loose, _, ok__law_loose (k := 1) B F_law_loose (h_law_draw base), m_law_loose, k_law_loose, b_law_loose⟩
  have same : flaw = fa := by
    rw [mlaw] at hfa
    cases hfa
    rfl
  subst same
  refine ⟨_, fun s u => .of_eq rfl, Flaw, body_law B fun base => ?_⟩
  exact ⟨(h_law_reader base).mono (by decide), (h_law_fixed_houses base).mono (by decide), (h_law_random_house base).mono (by decide), (h_law_loose base).mono (by decide), (hhouse_text base).mono (by decide), h_law_house_text base, (hex base 3).2.mono (by decide), (hex base 3).1.mono (by decide),
    (hexpression_text base).mono (by decide), (h_law_words base).mono (by decide), (hworld_text base).mono (by decide), (h_law_world_text base).mono (by decide), (h_law_draw base).mono (by decide)⟩
end T9

set_option Elab.async false
set_option maxRecDepth 100000
open PySem PySem.W PyProof.Rows
set_option maxRecDepth 100000 in
set_option maxHeartbeats 0 in
theorem PySem.Challenge.cw_mumhouse_k09_texts_written_holds : PySem.Challenge.rw_mumhouse_k09_texts_written.Holds := by
  w_on; o_law; k_head; (case hw => w_witness2)
  k_fill
  refine DL.walkG (l := PySem.Challenge.rw_mumhouse_k09_texts_written) (st := T9.top 35) (x := "law") (p := "_law_script") (N := T9.lawN) (k := 51) rfl rfl ⟨rfl, by decide, by decide⟩ (fun w h Y => PySem.W.kIn_of Y) ?F
  case F =>
    intro w mg fa h KX G hmg
    refine T9.all_law KX G hmg (T9.Top.mk
      (by refine' T9.DefAt.mk4 ?a ?l ?c ?k; (case a => k_is); (case l => k_is); (case c => k_is); (case k => k_is))
      (by refine' T9.DefAt.mk4 ?a ?l ?c ?k; (case a => k_is); (case l => k_is); (case c => k_is); (case k => k_is))
      (by refine' T9.DefAt.mk4 ?a ?l ?c ?k; (case a => k_is); (case l => k_is); (case c => k_is); (case k => k_is))
      (by refine' T9.DefAt.mk4 ?a ?l ?c ?k; (case a => k_is); (case l => k_is); (case c => k_is); (case k => k_is))
      (by refine' T9.DefAt.mk4 ?a ?l ?c ?k; (case a => k_is); (case l => k_is); (case c => k_is); (case k => k_is))
      (by refine' T9.DefAt.mk4 ?a ?l ?c ?k; (case a => k_is); (case l => k_is); (case c => k_is); (case k => k_is))
      (by refine' T9.DefAt.mk4 ?a ?l ?c ?k; (case a => k_is); (case l => k_is); (case c => k_is); (case k => k_is))
      (by refine' T9.DefAt.mk4 ?a ?l ?c ?k; (case a => k_is); (case l => k_is); (case c => k_is); (case k => k_is))
      (by refine' T9.DefAt.mk4 ?a ?l ?c ?k; (case a => k_is); (case l => k_is); (case c => k_is); (case k => k_is))
      (by refine' T9.DefAt.mk4 ?a ?l ?c ?k; (case a => k_is); (case l => k_is); (case c => k_is); (case k => k_is))
      (by refine' T9.DefAt.mk4 ?a ?l ?c ?k; (case a => k_is); (case l => k_is); (case c => k_is); (case k => k_is))
      (by refine' T9.DefAt.mk4 ?a ?l ?c ?k; (case a => k_is); (case l => k_is); (case c => k_is); (case k => k_is))
      (by refine' T9.DefAt.mk4 ?a ?l ?c ?k; (case a => k_is); (case l => k_is); (case c => k_is); (case k => k_is))
      (by refine' T9.DefAt.mk4 ?a ?l ?c ?k; (case a => k_is); (case l => k_is); (case c => k_is); (case k => k_is))
      (by refine' T9.DefAt.mk4 ?a ?l ?c ?k; (case a => k_is); (case l => k_is); (case c => k_is); (case k => k_is))
      (by refine' T9.DefAt.mk4 ?a ?l ?c ?k; (case a => k_is); (case l => k_is); (case c => k_is); (case k => k_is))
      (by refine' T9.DefAt.mk4 ?a ?l ?c ?k; (case a => k_is); (case l => k_is); (case c => k_is); (case k => k_is))
      (by refine' T9.DefAt.mk4 ?a ?l ?c ?k; (case a => k_is); (case l => k_is); (case c => k_is); (case k => k_is))
      (by refine' T9.DefAt.mk4 ?a ?l ?c ?k; (case a => k_is); (case l => k_is); (case c => k_is); (case k => k_is))
      (by refine' T9.DefAt.mk4 ?a ?l ?c ?k; (case a => k_is); (case l => k_is); (case c => k_is); (case k => k_is))
      (by refine' T9.DefAt.mk4 ?a ?l ?c ?k; (case a => k_is); (case l => k_is); (case c => k_is); (case k => k_is))
      (by refine' T9.DefAt.mk4 ?a ?l ?c ?k; (case a => k_is); (case l => k_is); (case c => k_is); (case k => k_is))
      (by refine' T9.DefAt.mk4 ?a ?l ?c ?k; (case a => k_is); (case l => k_is); (case c => k_is); (case k => k_is))
      (by refine' T9.DefAt.mk4 ?a ?l ?c ?k; (case a => k_is); (case l => k_is); (case c => k_is); (case k => k_is))
      (by refine' T9.DefAt.mk4 ?a ?l ?c ?k; (case a => k_is); (case l => k_is); (case c => k_is); (case k => k_is))
      (by refine' T9.DefAt.mk4 ?a ?l ?c ?k; (case a => k_is); (case l => k_is); (case c => k_is); (case k => k_is))
      (by refine' T9.DefAt.mk4 ?a ?l ?c ?k; (case a => k_is); (case l => k_is); (case c => k_is); (case k => k_is))
      (by k_is)
      (by k_is)
      (by k_is)
      (by k_is)
      (by k_is)
      (by k_is)
      (by k_is)
      (by k_is)
      (by k_is)
      (by k_is)
      (by k_is)
      (by k_is)
      (by k_is)
      (by k_is)
      (T9.StrAt.mk ⟨_, @T9.look _ _ KX "NAME" _ (by k_is)⟩)
      (T9.StrAt.mk ⟨_, @T9.look _ _ KX "NUMBER" _ (by k_is)⟩)
      (T9.StrAt.mk ⟨_, @T9.look _ _ KX "CONDITION" _ (by k_is)⟩)
      (by
        have q := @T9.look _ _ KX "NUMBERS" _ (by k_is)
        have l := T9.look2 KX 27 (by k_is)
        skip
        skip
        refine T9.TabAt.mk ⟨_, _, _, q, l, ?lit, ?low, ?en⟩
        case lit => exact ⟨⟨_, _, rfl, rfl⟩, ⟨⟨_, _, rfl, rfl⟩, ⟨⟨_, _, rfl, rfl⟩, ⟨⟨_, _, rfl, rfl⟩, ⟨⟨_, _, rfl, rfl⟩, ⟨⟨_, _, rfl, rfl⟩, ⟨⟨_, _, rfl, rfl⟩, ⟨⟨_, _, rfl, rfl⟩, ⟨⟨_, _, rfl, rfl⟩, ⟨⟨_, _, rfl, rfl⟩, trivial⟩⟩⟩⟩⟩⟩⟩⟩⟩⟩
        case low => decide
        case en =>
          (refine T9.Ents.mk rfl rfl (T9.look2 KX _ (by k_is)) rfl rfl (by first | exact .cons ⟨_, rfl⟩ .nil | exact .cons ⟨_, rfl⟩ (.cons ⟨_, rfl⟩ .nil) | exact .cons ⟨_, rfl⟩ (.cons ⟨_, rfl⟩ (.cons ⟨_, rfl⟩ .nil))) ?_)
          (refine T9.Ents.mk rfl rfl (T9.look2 KX _ (by k_is)) rfl rfl (by first | exact .cons ⟨_, rfl⟩ .nil | exact .cons ⟨_, rfl⟩ (.cons ⟨_, rfl⟩ .nil) | exact .cons ⟨_, rfl⟩ (.cons ⟨_, rfl⟩ (.cons ⟨_, rfl⟩ .nil))) ?_)
          (refine T9.Ents.mk rfl rfl (T9.look2 KX _ (by k_is)) rfl rfl (by first | exact .cons ⟨_, rfl⟩ .nil | exact .cons ⟨_, rfl⟩ (.cons ⟨_, rfl⟩ .nil) | exact .cons ⟨_, rfl⟩ (.cons ⟨_, rfl⟩ (.cons ⟨_, rfl⟩ .nil))) ?_)
          (refine T9.Ents.mk rfl rfl (T9.look2 KX _ (by k_is)) rfl rfl (by first | exact .cons ⟨_, rfl⟩ .nil | exact .cons ⟨_, rfl⟩ (.cons ⟨_, rfl⟩ .nil) | exact .cons ⟨_, rfl⟩ (.cons ⟨_, rfl⟩ (.cons ⟨_, rfl⟩ .nil))) ?_)
          (refine T9.Ents.mk rfl rfl (T9.look2 KX _ (by k_is)) rfl rfl (by first | exact .cons ⟨_, rfl⟩ .nil | exact .cons ⟨_, rfl⟩ (.cons ⟨_, rfl⟩ .nil) | exact .cons ⟨_, rfl⟩ (.cons ⟨_, rfl⟩ (.cons ⟨_, rfl⟩ .nil))) ?_)
          (refine T9.Ents.mk rfl rfl (T9.look2 KX _ (by k_is)) rfl rfl (by first | exact .cons ⟨_, rfl⟩ .nil | exact .cons ⟨_, rfl⟩ (.cons ⟨_, rfl⟩ .nil) | exact .cons ⟨_, rfl⟩ (.cons ⟨_, rfl⟩ (.cons ⟨_, rfl⟩ .nil))) ?_)
          (refine T9.Ents.mk rfl rfl (T9.look2 KX _ (by k_is)) rfl rfl (by first | exact .cons ⟨_, rfl⟩ .nil | exact .cons ⟨_, rfl⟩ (.cons ⟨_, rfl⟩ .nil) | exact .cons ⟨_, rfl⟩ (.cons ⟨_, rfl⟩ (.cons ⟨_, rfl⟩ .nil))) ?_)
          (refine T9.Ents.mk rfl rfl (T9.look2 KX _ (by k_is)) rfl rfl (by first | exact .cons ⟨_, rfl⟩ .nil | exact .cons ⟨_, rfl⟩ (.cons ⟨_, rfl⟩ .nil) | exact .cons ⟨_, rfl⟩ (.cons ⟨_, rfl⟩ (.cons ⟨_, rfl⟩ .nil))) ?_)
          (refine T9.Ents.mk rfl rfl (T9.look2 KX _ (by k_is)) rfl rfl (by first | exact .cons ⟨_, rfl⟩ .nil | exact .cons ⟨_, rfl⟩ (.cons ⟨_, rfl⟩ .nil) | exact .cons ⟨_, rfl⟩ (.cons ⟨_, rfl⟩ (.cons ⟨_, rfl⟩ .nil))) ?_)
          (refine T9.Ents.mk rfl rfl (T9.look2 KX _ (by k_is)) rfl rfl (by first | exact .cons ⟨_, rfl⟩ .nil | exact .cons ⟨_, rfl⟩ (.cons ⟨_, rfl⟩ .nil) | exact .cons ⟨_, rfl⟩ (.cons ⟨_, rfl⟩ (.cons ⟨_, rfl⟩ .nil))) ?_)
          exact .nil)
      (by
        have q := @T9.look _ _ KX "CONDITIONS" _ (by k_is)
        have l := T9.look2 KX 38 (by k_is)
        skip
        skip
        refine T9.TabAt.mk ⟨_, _, _, q, l, ?lit, ?low, ?en⟩
        case lit => exact ⟨⟨_, _, rfl, rfl⟩, ⟨⟨_, _, rfl, rfl⟩, ⟨⟨_, _, rfl, rfl⟩, ⟨⟨_, _, rfl, rfl⟩, ⟨⟨_, _, rfl, rfl⟩, trivial⟩⟩⟩⟩⟩
        case low => decide
        case en =>
          (refine T9.Ents.mk rfl rfl (T9.look2 KX _ (by k_is)) rfl rfl (by first | exact .cons ⟨_, rfl⟩ .nil | exact .cons ⟨_, rfl⟩ (.cons ⟨_, rfl⟩ .nil) | exact .cons ⟨_, rfl⟩ (.cons ⟨_, rfl⟩ (.cons ⟨_, rfl⟩ .nil))) ?_)
          (refine T9.Ents.mk rfl rfl (T9.look2 KX _ (by k_is)) rfl rfl (by first | exact .cons ⟨_, rfl⟩ .nil | exact .cons ⟨_, rfl⟩ (.cons ⟨_, rfl⟩ .nil) | exact .cons ⟨_, rfl⟩ (.cons ⟨_, rfl⟩ (.cons ⟨_, rfl⟩ .nil))) ?_)
          (refine T9.Ents.mk rfl rfl (T9.look2 KX _ (by k_is)) rfl rfl (by first | exact .cons ⟨_, rfl⟩ .nil | exact .cons ⟨_, rfl⟩ (.cons ⟨_, rfl⟩ .nil) | exact .cons ⟨_, rfl⟩ (.cons ⟨_, rfl⟩ (.cons ⟨_, rfl⟩ .nil))) ?_)
          (refine T9.Ents.mk rfl rfl (T9.look2 KX _ (by k_is)) rfl rfl (by first | exact .cons ⟨_, rfl⟩ .nil | exact .cons ⟨_, rfl⟩ (.cons ⟨_, rfl⟩ .nil) | exact .cons ⟨_, rfl⟩ (.cons ⟨_, rfl⟩ (.cons ⟨_, rfl⟩ .nil))) ?_)
          (refine T9.Ents.mk rfl rfl (T9.look2 KX _ (by k_is)) rfl rfl (by first | exact .cons ⟨_, rfl⟩ .nil | exact .cons ⟨_, rfl⟩ (.cons ⟨_, rfl⟩ .nil) | exact .cons ⟨_, rfl⟩ (.cons ⟨_, rfl⟩ (.cons ⟨_, rfl⟩ .nil))) ?_)
          exact .nil)
      )

