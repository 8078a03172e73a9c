import PyProof.Rows.All
import Wide.All
import OpenK.AllK
import Wide.FinOn
import HandS.Base
import HandS.Call
import HandS.List
import HandS.Comp
import HandS.Words
import HandS.Iter
import HandS.Zip
import HandS.Conv
import HandS.RevRange
import HandS.ForMost
import HandS.TupAny
import HandS.IsInst
import HandS.FStr
import PyProof.ReprRoads
import HandS.More
import HandS.Dict
import HandS.Wide
import HandS.TupMul
import PyProof.ReprLen
import PyProof.StrLawsRepr
import HandS.Ends
import HandS.EndBits
import KE.GoesMore
import KE.GoesEnum
import HandS.Style
import HandS.Small
import PySem.Challenge.RW_mumhouse_k01_kinds_by_form
set_option Elab.async false
set_option linter.all false
set_option maxRecDepth 100000

namespace DL
open PySem PySem.Spec PyProof.Rows L2


def Sub (D H : Hp) : Prop := ∀ a o, D a = some o → H a = some o
theorem rd_mono {D D' : Hp} (s : Same D D') {a : Addr} {u : HO} (h : Rd D a u) : Rd D' a u := by
  rcases h with h | ⟨o, h⟩
  · exact .inl (s _ _ h)
  · exact .inr ⟨o, s _ _ h⟩
def SqX (K : PySem.W.Frag) (H : Hp) (a : Addr) (xs : List V) : Prop :=
  Rd H a (.lst xs) ∨ ∃ (its : List Value) (n : Nat), K.lookup a = some { cls := .type "list", data := .seq its.toArray n } ∧ xs.length ≤ sizeLine ∧ Vals xs its
theorem SqX.of {K : PySem.W.Frag} {H : Hp} {a : Addr} {xs : List V} (h : H a = some (.lst xs)) : SqX K H a xs := .inl (.inl h)
theorem SqX.l {K : PySem.W.Frag} {H : Hp} {a : Addr} {xs : List V} (h : SqX K H a xs) : SqL K H a xs := by
  rcases h with h | ⟨its, n, k, z, v⟩
  · exact .inl h
  · exact .inr ⟨_, its.toArray, n, k, rfl, rfl, rfl, by rw [List.size_toArray, ← v.length]; exact z, by simpa using v⟩
theorem sqX_mono {K : PySem.W.Frag} {D D' : Hp} (s : Same D D') {a : Addr} {xs : List V} (h : SqX K D a xs) : SqX K D' a xs := by
  rcases h with h | h
  · exact .inl (rd_mono s h)
  · exact .inr h
theorem sqL_mono {K : PySem.W.Frag} {D D' : Hp} (s : Same D D') {a : Addr} {xs : List V} (h : SqX K D a xs) : SqL K D' a xs := (sqX_mono s h).l
theorem sqT_mono {K : PySem.W.Frag} {D D' : Hp} (s : Same D D') {a : Addr} {xs : List V} (h : SqT K D a xs) : SqT K D' a xs := by
  rcases h with h | h
  · exact .inl (rd_mono s h)
  · exact .inr h
mutual
inductive Dp (K : PySem.W.Frag) (H : Hp) : V → PyData → Prop -- k01
  | non : Dp K H V.non PyData.none
  | bl (b : Bool) : Dp K H (V.bl b) (PyData.bool b)
  | int (i : Int) : Dp K H (V.int i) (PyData.int i)
  | str (x : Str) : Dp K H (V.str x) (PyData.str x)
  | lst {a : Addr} {xs : List V} {ds : List PyData} (s : SqX K H a xs) (al : DpAll K H xs ds) : Dp K H (V.ref a) (PyData.list ds)
  | tup {a : Addr} {xs : List V} {ds : List PyData} (s : SqT K H a xs) (al : DpAll K H xs ds) : Dp K H (V.ref a) (PyData.tuple ds)
inductive DpAll (K : PySem.W.Frag) (H : Hp) : List V → List PyData → Prop -- k01
  | nil : DpAll K H [] []
  | cons {v : V} {vs : List V} {d : PyData} {ds : List PyData} (a : Dp K H v d) (b : DpAll K H vs ds) : DpAll K H (v :: vs) (d :: ds)
end
mutual
theorem dp_l2 {K : PySem.W.Frag} {H : Hp} : ∀ {d : PyData} {v : V}, Dp K H v d → L2.Dp K H v d
  | .none, _, h => by cases h; exact .non
  | .bool _, _, h => by cases h; exact .bl _
  | .int _, _, h => by cases h; exact .int _
  | .str _, _, h => by cases h; exact .str _
  | .list ds, _, h => by
    cases h with
    | lst q a => exact .lst q.l (dpAll_l2 a)
  | .tuple ds, _, h => by
    cases h with
    | tup q a => exact .tup q (dpAll_l2 a)
  | .dict _, _, h => by cases h
theorem dpAll_l2 {K : PySem.W.Frag} {H : Hp} : ∀ {ds : List PyData} {vs : List V}, DpAll K H vs ds → L2.DpAll K H vs ds
  | [], _, h => by cases h; exact .nil
  | _ :: _, _, h => by
    cases h with
    | cons a b => exact .cons (dp_l2 a) (dpAll_l2 b)
end
mutual
theorem dp_mono {K : PySem.W.Frag} {D D' : Hp} (s : Same D D') : ∀ {d : PyData} {v : V}, Dp K D v d → Dp K D' v d
  | .none, _, h => by cases h; exact .non
  | .bool _, _, h => by cases h; exact .bl _
  | .int _, _, h => by cases h; exact .int _
  | .str _, _, h => by cases h; exact .str _
  | .list ds, _, h => by
    cases h with
    | lst q a => exact .lst (sqX_mono s q) (dpAll_mono s a)
  | .tuple ds, _, h => by
    cases h with
    | tup q a => exact .tup (sqT_mono s q) (dpAll_mono s a)
  | .dict _, _, h => by cases h
theorem dpAll_mono {K : PySem.W.Frag} {D D' : Hp} (s : Same D D') : ∀ {ds : List PyData} {vs : List V}, DpAll K D vs ds → DpAll K D' vs ds
  | [], _, h => by cases h; exact .nil
  | _ :: _, _, h => by
    cases h with
    | cons a b => exact .cons (dp_mono s a) (dpAll_mono s b)
end
theorem dpAll_len {K : PySem.W.Frag} {D : Hp} : ∀ {ds : List PyData} {vs : List V}, DpAll K D vs ds → vs.length = ds.length
  | [], _, h => by cases h; rfl
  | _ :: _, _, h => by
    cases h with
    | cons a b => simp [dpAll_len b]
theorem dpAll_get {K : PySem.W.Frag} {D : Hp} : ∀ {ds : List PyData} {vs : List V} {i : Nat} {d : PyData}, DpAll K D vs ds → ds[i]? = some d → ∃ v, vs[i]? = some v ∧ Dp K D v d
  | [], _, _, _, _, e => by simp at e
  | _ :: _, _, 0, _, h, e => by
    cases h with
    | cons a b =>
      simp at e
      subst e
      exact ⟨_, rfl, a⟩
  | _ :: _, _, i + 1, _, h, e => by
    cases h with
    | cons a b =>
      obtain ⟨v, h1, h2⟩ := dpAll_get b (i := i) (by simpa using e)
      exact ⟨v, by simpa using h1, h2⟩
theorem dpAll_getV {K : PySem.W.Frag} {D : Hp} : ∀ {ds : List PyData} {vs : List V} {i : Nat} {v : V}, DpAll K D vs ds → vs[i]? = some v → ∃ d, ds[i]? = some d ∧ Dp K D v d
  | [], _, _, _, h, e => by cases h; simp at e
  | _ :: _, _, 0, _, h, e => by
    cases h with
    | cons a b =>
      simp at e
      subst e
      exact ⟨_, rfl, a⟩
  | _ :: _, _, i + 1, _, h, e => by
    cases h with
    | cons a b =>
      obtain ⟨v, h1, h2⟩ := dpAll_getV b (i := i) (by simpa using e)
      exact ⟨v, by simpa using h1, h2⟩
theorem dpAll_app {K : PySem.W.Frag} {D : Hp} : ∀ {ds es : List PyData} {vs us : List V}, DpAll K D vs ds → DpAll K D us es → DpAll K D (vs ++ us) (ds ++ es)
  | [], _, _, _, h, k => by cases h; exact k
  | _ :: _, _, _, _, h, k => by
    cases h with
    | cons a b => exact .cons a (dpAll_app b k)
theorem dpAll_set {K : PySem.W.Frag} {D : Hp} : ∀ {ds : List PyData} {vs : List V} {i : Nat} {d : PyData} {v : V}, DpAll K D vs ds → Dp K D v d → DpAll K D (vs.set i v) (ds.set i d)
  | [], _, _, _, _, h, _ => by cases h; exact .nil
  | _ :: _, _, 0, _, _, h, k => by
    cases h with
    | cons a b => exact .cons k b
  | _ :: _, _, i + 1, _, _, h, k => by
    cases h with
    | cons a b => exact .cons a (dpAll_set b k)
theorem dpAll_take {K : PySem.W.Frag} {D : Hp} : ∀ {ds : List PyData} {vs : List V} (n : Nat), DpAll K D vs ds → DpAll K D (vs.take n) (ds.take n)
  | _, _, 0, _ => .nil
  | [], _, _ + 1, h => by cases h; exact .nil
  | _ :: _, _, n + 1, h => by
    cases h with
    | cons a b => exact .cons a (dpAll_take n b)
theorem dpAll_drop {K : PySem.W.Frag} {D : Hp} : ∀ {ds : List PyData} {vs : List V} (n : Nat), DpAll K D vs ds → DpAll K D (vs.drop n) (ds.drop n)
  | _, _, 0, h => h
  | [], _, _ + 1, h => by cases h; exact .nil
  | _ :: _, _, n + 1, h => by
    cases h with
    | cons a b => exact dpAll_drop n b
theorem dpAll_dropLast {K : PySem.W.Frag} {D : Hp} {ds : List PyData} {vs : List V} (h : DpAll K D vs ds) : DpAll K D vs.dropLast ds.dropLast := by
  rw [List.dropLast_eq_take, List.dropLast_eq_take, dpAll_len h]
  exact dpAll_take _ h
theorem dpAll_rev {K : PySem.W.Frag} {D : Hp} : ∀ {ds : List PyData} {vs : List V}, DpAll K D vs ds → DpAll K D vs.reverse ds.reverse
  | [], _, h => by cases h; exact .nil
  | _ :: _, _, h => by
    cases h with
    | cons a b =>
      rw [List.reverse_cons, List.reverse_cons] -- k01
      exact dpAll_app (dpAll_rev b) (.cons a .nil)
theorem dpAll_ints {K : PySem.W.Frag} {D : Hp} : ∀ (ns : List Int), DpAll K D (ns.map V.int) (ns.map PyData.int)
  | [] => .nil
  | _ :: r => .cons (.int _) (dpAll_ints r)
theorem dpAll_bls {K : PySem.W.Frag} {D : Hp} : ∀ (ns : List Bool), DpAll K D (ns.map V.bl) (ns.map PyData.bool)
  | [] => .nil
  | _ :: r => .cons (.bl _) (dpAll_bls r)
theorem dpAll_strs {K : PySem.W.Frag} {D : Hp} : ∀ (ns : List Str), DpAll K D (ns.map V.str) (ns.map PyData.str)
  | [] => .nil
  | _ :: r => .cons (.str _) (dpAll_strs r)
theorem dpAll_intsV {K : PySem.W.Frag} {D : Hp} : ∀ {ns : List Int} {vs : List V}, DpAll K D vs (ns.map PyData.int) → vs = ns.map V.int
  | [], _, h => by cases h; rfl
  | _ :: _, _, h => by
    cases h with
    | cons a b => cases a; rw [dpAll_intsV b]; rfl
theorem dpAll_blsV {K : PySem.W.Frag} {D : Hp} : ∀ {ns : List Bool} {vs : List V}, DpAll K D vs (ns.map PyData.bool) → vs = ns.map V.bl
  | [], _, h => by cases h; rfl
  | _ :: _, _, h => by
    cases h with
    | cons a b => cases a; rw [dpAll_blsV b]; rfl
theorem dpAll_strsV {K : PySem.W.Frag} {D : Hp} : ∀ {ns : List Str} {vs : List V}, DpAll K D vs (ns.map PyData.str) → vs = ns.map V.str
  | [], _, h => by cases h; rfl
  | _ :: _, _, h => by
    cases h with
    | cons a b => cases a; rw [dpAll_strsV b]; rfl


inductive Ent where
  | dat (d : PyData) | own (ds : List PyData) | arg (ds : List PyData)
abbrev DEnv := List (Option Ent)
structure Root where
  H0 : Hp
  D0 : Hp
  A0 : Option Addr
structure Grow (D H D' H' : Hp) : Prop where
  h : Same H H'
  d : Same D D'
  sub : Sub D' H'
  new : ∀ a o, D' a = some o → D a = some o ∨ H a = none
theorem Grow.refl {D H : Hp} (s : Sub D H) : Grow D H D H := ⟨Same.refl _, Same.refl _, s, fun _ _ h => .inl h⟩
theorem Grow.trans {D H D1 H1 D2 H2 : Hp} (a : Grow D H D1 H1) (b : Grow D1 H1 D2 H2) : Grow D H D2 H2 :=
  ⟨a.h.trans b.h, a.d.trans b.d, b.sub, fun x o h => by
    rcases b.new x o h with h1 | h1
    · exact a.new x o h1
    · exact .inr (a.h.free h1)⟩
theorem Grow.upd {D H : Hp} {p : Addr} {o : HO} (s : Sub D H) (hp : H p = none) : Grow D H (upd D p o) (upd H p o) := by
  have hD : D p = none := by
    cases q : D p with
    | none => rfl
    | some u => rw [s p u q] at hp; cases hp
  refine ⟨fun b u e => by rw [upd_ne (ne_of_none e hp)]; exact e, fun b u e => by rw [upd_ne (ne_of_none e hD)]; exact e, fun b u e => ?_, fun b u e => ?_⟩
  · by_cases hb : b = p
    · subst hb; rw [upd_same] at e ⊢; exact e
    · rw [upd_ne hb] at e ⊢; exact s b u e
  · by_cases hb : b = p
    · subst hb; exact .inr hp
    · rw [upd_ne hb] at e; exact .inl e
theorem Grow.tmp {D H : Hp} {p : Addr} {o : HO} (s : Sub D H) (hp : H p = none) : Grow D H D (L2.upd H p o) := by
  refine ⟨fun b u e => by rw [upd_ne (ne_of_none e hp)]; exact e, Same.refl _, fun b u e => ?_, fun b u e => .inl e⟩
  have := s b u e
  rw [upd_ne (ne_of_none this hp)]; exact this
structure Rep (K : PySem.W.Frag) (R : Root) (σ : L2.St) (H : Hp) (Γ : DEnv) (D : Hp) : Prop where
  sub : Sub D H
  ext : Same R.D0 D
  new : ∀ a o, D a = some o → R.D0 a = some o ∨ R.H0 a = none
  kept : ∀ a o, R.H0 a = some o → R.A0 ≠ some a → H a = some o
  len : σ.length = Γ.length
  dat : ∀ (i : Nat) (d : PyData), Γ[i]? = some (some (Ent.dat d)) → ∃ v, σ[i]? = some (some v) ∧ Dp K D v d
  own : ∀ (i : Nat) (ds : List PyData), Γ[i]? = some (some (Ent.own ds)) → ∃ a xs, σ[i]? = some (some (V.ref a)) ∧ H a = some (.lst xs) ∧ D a = none ∧ DpAll K D xs ds ∧ R.H0 a = none
  arg : ∀ (i : Nat) (ds : List PyData), Γ[i]? = some (some (Ent.arg ds)) → ∃ a xs, R.A0 = some a ∧ σ[i]? = some (some (V.ref a)) ∧ H a = some (.lst xs) ∧ D a = none ∧ DpAll K D xs ds
  a0 : ∀ a, R.A0 = some a → ∃ ds, Γ[0]? = some (some (Ent.arg ds)) ∧ ∀ (i : Nat) (ds' : List PyData), Γ[i]? = some (some (Ent.arg ds')) → i = 0
  apart : ∀ (i j : Nat) (ds es : List PyData) (a : Addr), Γ[i]? = some (some (Ent.own ds)) → Γ[j]? = some (some (Ent.own es)) → σ[i]? = some (some (V.ref a)) → σ[j]? = some (some (V.ref a)) → i = j
  args : ∀ a, R.A0 = some a → ∃ o, R.H0 a = some o
def Mine (σ : L2.St) (Γ : DEnv) (a : Addr) : Prop := ∃ i : Nat, σ[i]? = some (some (V.ref a)) ∧ ((∃ ds, Γ[i]? = some (some (Ent.own ds))) ∨ ∃ ds, Γ[i]? = some (some (Ent.arg ds)))
structure Step (σ : L2.St) (Γ : DEnv) (D H : Hp) (Γ' : DEnv) (D' H' : Hp) : Prop where
  d : Same D D'
  keep : ∀ a o, H a = some o → ¬ Mine σ Γ a → H' a = some o
  mine : ∀ a, Mine σ Γ' a → Mine σ Γ a
  new : ∀ a o, D' a = some o → D a = some o ∨ H a = none ∨ Mine σ Γ a
  there : ∀ a o, H a = some o → ∃ o', H' a = some o'
theorem Step.refl {σ : L2.St} {Γ : DEnv} {D H : Hp} : Step σ Γ D H Γ D H := ⟨Same.refl _, fun _ _ h _ => h, fun _ h => h, fun _ _ h => .inl h, fun _ o h => ⟨o, h⟩⟩
theorem Step.trans {σ : L2.St} {Γ Γ1 Γ2 : DEnv} {D H D1 H1 D2 H2 : Hp} (a : Step σ Γ D H Γ1 D1 H1) (b : Step σ Γ1 D1 H1 Γ2 D2 H2) : Step σ Γ D H Γ2 D2 H2 :=
  ⟨a.d.trans b.d, fun x o h n => b.keep x o (a.keep x o h n) fun z => n (a.mine x z), fun x h => a.mine x (b.mine x h), fun x o h => by
    rcases b.new x o h with h1 | h1 | h1
    · exact a.new x o h1
    · refine .inr (.inl ?_)
      cases q : H x with
      | none => rfl
      | some u =>
        obtain ⟨o', e⟩ := a.there x u q
        rw [e] at h1; cases h1
    · exact .inr (.inr (a.mine x h1)), fun x o h => by
    obtain ⟨o1, e1⟩ := a.there x o h
    exact b.there x o1 e1⟩
theorem Grow.step {σ : L2.St} {Γ : DEnv} {D H D' H' : Hp} (g : Grow D H D' H') : Step σ Γ D H Γ D' H' :=
  ⟨g.d, fun a o h _ => g.h a o h, fun _ h => h, fun a o h => (g.new a o h).elim .inl fun z => .inr (.inl z), fun a o h => ⟨o, g.h a o h⟩⟩
theorem Rep.grow {K : PySem.W.Frag} {R : Root} {σ : L2.St} {H H' D D' : Hp} {Γ : DEnv} (r : Rep K R σ H Γ D) (g : Grow D H D' H') : Rep K R σ H' Γ D' := by
  have nD : ∀ a o, H a = some o → D a = none → D' a = none := fun a o h n => by
    cases q : D' a with
    | none => rfl
    | some u =>
      rcases g.new a u q with z | z
      · rw [n] at z; cases z
      · rw [h] at z; cases z
  have hH : ∀ a, R.H0 a ≠ none → R.A0 ≠ some a → H a ≠ none := fun a h n z => by
    cases q : R.H0 a with
    | none => exact h q
    | some u => rw [r.kept a u q n] at z; cases z
  refine ⟨g.sub, r.ext.trans g.d, fun a o h => ?_, fun a o h n => g.h a o (r.kept a o h n), r.len, fun i d h => ?_, fun i ds h => ?_, fun i ds h => ?_, r.a0, r.apart, r.args⟩
  · rcases g.new a o h with z | z
    · exact r.new a o z
    · refine .inr ?_
      cases q : R.H0 a with
      | none => rfl
      | some u =>
        by_cases n : R.A0 = some a
        · obtain ⟨ds, e, _⟩ := r.a0 a n
          obtain ⟨b, xs, e1, _, e3, _⟩ := r.arg 0 ds e
          rw [n] at e1; cases e1
          rw [e3] at z; cases z
        · rw [r.kept a u q n] at z; cases z
  · obtain ⟨v, e, q⟩ := r.dat i d h
    exact ⟨v, e, dp_mono g.d q⟩
  · obtain ⟨a, xs, e1, e2, e3, e4, e5⟩ := r.own i ds h
    exact ⟨a, xs, e1, g.h _ _ e2, nD a _ e2 e3, dpAll_mono g.d e4, e5⟩
  · obtain ⟨a, xs, e0, e1, e2, e3, e4⟩ := r.arg i ds h
    exact ⟨a, xs, e0, e1, g.h _ _ e2, nD a _ e2 e3, dpAll_mono g.d e4⟩


abbrev DE := DEnv → (PyData → DEnv → Prop) → Prop
abbrev DT := DEnv → (Bool → DEnv → Prop) → Prop
abbrev DA := DEnv → (List PyData → DEnv → Prop) → Prop
def liftE (K : PySem.W.Frag) (R : Root) (de : DE) : TE := fun σ H Q => ∃ Γ D, Rep K R σ H Γ D ∧ de Γ fun d Γ' => ∀ v H' D', Rep K R σ H' Γ' D' → Step σ Γ D H Γ' D' H' → Dp K D' v d → Q v H'
def liftT (K : PySem.W.Frag) (R : Root) (dt : DT) : TT := fun σ H Q => ∃ Γ D, Rep K R σ H Γ D ∧ dt Γ fun b Γ' => ∀ H' D', Rep K R σ H' Γ' D' → Step σ Γ D H Γ' D' H' → Q b H'
def liftA (K : PySem.W.Frag) (R : Root) (da : DA) : TA := fun σ H Q => ∃ Γ D, Rep K R σ H Γ D ∧ da Γ fun ds Γ' => ∀ vs H' D', Rep K R σ H' Γ' D' → Step σ Γ D H Γ' D' H' → DpAll K D' vs ds → Q vs H'
def liftL (K : PySem.W.Frag) (R : Root) (dl : DA) : TE := fun σ H Q => ∃ Γ D, Rep K R σ H Γ D ∧ dl Γ fun ds Γ' => ∀ p xs H' D', Rep K R σ H' Γ' D' → Step σ Γ D H Γ' D' H' → H p = none → H' p = some (.lst xs) → D' p = none → ¬ Mine σ Γ' p → DpAll K D' xs ds → Q (.ref p) H'
abbrev PD (X : Cx) (R : Root) (e : Expr) (de : DE) : Prop := PE X e (liftE X.K R de)
abbrev PTD (X : Cx) (R : Root) (e : Expr) (dt : DT) : Prop := PT X e (liftT X.K R dt)
abbrev PWD (X : Cx) (R : Root) (e : Expr) (dt : DT) : Prop := PW X e (liftT X.K R dt)
abbrev PAD (X : Cx) (R : Root) (es : List Expr) (da : DA) : Prop := PA X es (liftA X.K R da)
abbrev PLD (X : Cx) (R : Root) (e : Expr) (dl : DA) : Prop := PE X e (liftL X.K R dl)
theorem pe_imp {X : Cx} {e : Expr} {t u : TE} (h : PE X e t) (i : ∀ σ H Q, u σ H Q → t σ H Q) : PE X e u := ⟨fun pins s σ H Q I q => h.run pins s σ H Q I (i σ H Q q)⟩
theorem pt_imp {X : Cx} {e : Expr} {t u : TT} (h : PT X e t) (i : ∀ σ H Q, u σ H Q → t σ H Q) : PT X e u := ⟨fun pins s σ H Q I q => h.run pins s σ H Q I (i σ H Q q)⟩
theorem pw_imp {X : Cx} {e : Expr} {t u : TT} (h : PW X e t) (i : ∀ σ H Q, u σ H Q → t σ H Q) : PW X e u := ⟨fun wh pins s σ H Q I q => h.run wh pins s σ H Q I (i σ H Q q)⟩
theorem pa_imp {X : Cx} {e : List Expr} {t u : TA} (h : PA X e t) (i : ∀ σ H Q, u σ H Q → t σ H Q) : PA X e u := ⟨fun pos pins s σ H Q I q => h.run pos pins s σ H Q I (i σ H Q q)⟩
theorem ps_imp {X : Cx} {e : Stmt} {t u : TS} (h : PS X e t) (i : ∀ D σ H, u D σ H → t D σ H) : PS X e u := ⟨fun pins s σ H D I q => h.run pins s σ H D I (i D σ H q)⟩
theorem pss_imp {X : Cx} {e : List Stmt} {t u : TS} (h : PSs X e t) (i : ∀ D σ H, u D σ H → t D σ H) : PSs X e u := ⟨fun pins s σ H D I q => h.run pins s σ H D I (i D σ H q)⟩
theorem runE {K : PySem.W.Frag} {R : Root} {de : DE} {σ : L2.St} {H D : Hp} {Γ : DEnv} {Q : VK} {W : PyData → DEnv → Prop} (r : Rep K R σ H Γ D) (h : de Γ W)
    (k : ∀ d Γ' v H' D', W d Γ' → Rep K R σ H' Γ' D' → Step σ Γ D H Γ' D' H' → Dp K D' v d → Q v H') (mono : ∀ Γ (W W' : PyData → DEnv → Prop), (∀ d Γ', W d Γ' → W' d Γ') → de Γ W → de Γ W') : liftE K R de σ H Q :=
  ⟨Γ, D, r, mono Γ _ _ (fun d Γ' w v H' D' r' st q => k d Γ' v H' D' w r' st q) h⟩
end DL

set_option Elab.async false
set_option linter.all false
set_option maxRecDepth 100000
namespace DL
open PySem PySem.Spec PyProof.Rows L2

def MonoK {α : Type} (d : DEnv → (α → DEnv → Prop) → Prop) : Prop := ∀ Γ (W W' : α → DEnv → Prop), (∀ x Γ', W x Γ' → W' x Γ') → d Γ W → d Γ W'
structure PDE (X : Cx) (R : Root) (e : Expr) (de : DE) : Prop where
  pe : PE X e (liftE X.K R de)
  mono : MonoK de
structure PDT (X : Cx) (R : Root) (e : Expr) (dt : DT) : Prop where
  pt : PT X e (liftT X.K R dt)
  mono : MonoK dt
structure PDW (X : Cx) (R : Root) (e : Expr) (dt : DT) : Prop where
  pw : PW X e (liftT X.K R dt)
  mono : MonoK dt
structure PDA (X : Cx) (R : Root) (es : List Expr) (da : DA) : Prop where
  pa : PA X es (liftA X.K R da)
  mono : MonoK da
structure PDL (X : Cx) (R : Root) (e : Expr) (dl : DA) : Prop where
  pl : PE X e (liftL X.K R dl)
  mono : MonoK dl

section
variable {X : Cx} {R : Root} {K : PySem.W.Frag} {σ : L2.St} {H D : Hp} {Γ : DEnv}
theorem goE {de : DE} {Q : VK} {W : PyData → DEnv → Prop} (r : Rep K R σ H Γ D) (m : MonoK de) (h : de Γ W)
    (k : ∀ d Γ' v H' D', W d Γ' → Rep K R σ H' Γ' D' → Step σ Γ D H Γ' D' H' → Dp K D' v d → Q v H') : liftE K R de σ H Q :=
  ⟨Γ, D, r, m Γ _ _ (fun d Γ' w v H' D' r' st q => k d Γ' v H' D' w r' st q) h⟩
theorem goT {dt : DT} {Q : Bool → Hp → Prop} {W : Bool → DEnv → Prop} (r : Rep K R σ H Γ D) (m : MonoK dt) (h : dt Γ W)
    (k : ∀ b Γ' H' D', W b Γ' → Rep K R σ H' Γ' D' → Step σ Γ D H Γ' D' H' → Q b H') : liftT K R dt σ H Q :=
  ⟨Γ, D, r, m Γ _ _ (fun b Γ' w H' D' r' st => k b Γ' H' D' w r' st) h⟩
theorem goA {da : DA} {Q : List V → Hp → Prop} {W : List PyData → DEnv → Prop} (r : Rep K R σ H Γ D) (m : MonoK da) (h : da Γ W)
    (k : ∀ ds Γ' vs H' D', W ds Γ' → Rep K R σ H' Γ' D' → Step σ Γ D H Γ' D' H' → DpAll K D' vs ds → Q vs H') : liftA K R da σ H Q :=
  ⟨Γ, D, r, m Γ _ _ (fun ds Γ' w vs H' D' r' st q => k ds Γ' vs H' D' w r' st q) h⟩
theorem goL {dl : DA} {Q : VK} {W : List PyData → DEnv → Prop} (r : Rep K R σ H Γ D) (m : MonoK dl) (h : dl Γ W)
    (k : ∀ ds Γ' p xs H' D', W ds Γ' → Rep K R σ H' Γ' D' → Step σ Γ D H Γ' D' H' → H p = none → H' p = some (.lst xs) → D' p = none → ¬ Mine σ Γ' p → DpAll K D' xs ds → Q (.ref p) H') : liftL K R dl σ H Q :=
  ⟨Γ, D, r, m Γ _ _ (fun ds Γ' w p xs H' D' r' st a b c n q => k ds Γ' p xs H' D' w r' st a b c n q) h⟩


def dVar (i : Nat) : DE := fun Γ Q => match Γ[i]? with
  | some (some (Ent.dat d)) => Q d Γ
  | some (some (Ent.own ds)) => Q (.list ds) (Γ.set i (some (Ent.dat (.list ds))))
  | _ => False
theorem dVar_mono (i : Nat) : MonoK (dVar i) := fun Γ W W' m h => by
  unfold dVar at h ⊢
  split at h
  · exact m _ _ h
  · exact m _ _ h
  · exact h
theorem freeze {i : Nat} {ds : List PyData} {a : Addr} {xs : List V} (r : Rep K R σ H Γ D) (hi : Γ[i]? = some (some (Ent.own ds))) (hs : σ[i]? = some (some (V.ref a))) (hH : H a = some (.lst xs)) (hD : D a = none) (hd : DpAll K D xs ds) (h0 : R.H0 a = none) :
    Rep K R σ H (Γ.set i (some (Ent.dat (.list ds)))) (upd D a (.lst xs)) ∧ Step σ Γ D H (Γ.set i (some (Ent.dat (.list ds)))) (upd D a (.lst xs)) H ∧ Dp K (upd D a (.lst xs)) (.ref a) (.list ds) := by
  have sm : Same D (upd D a (.lst xs)) := fun b u e => by rw [upd_ne (ne_of_none e hD)]; exact e
  have hil : i < Γ.length := (List.getElem?_eq_some_iff.mp hi).1
  have gi : (Γ.set i (some (Ent.dat (.list ds))))[i]? = some (some (Ent.dat (.list ds))) := List.getElem?_set_self hil
  have gj : ∀ j, j ≠ i → (Γ.set i (some (Ent.dat (.list ds))))[j]? = Γ[j]? := fun j n => List.getElem?_set_ne (Ne.symm n)
  have nj : ∀ (j : Nat) (es : List PyData), (Γ.set i (some (Ent.dat (.list ds))))[j]? = some (some (Ent.own es)) → j ≠ i ∧ Γ[j]? = some (some (Ent.own es)) := fun j es e => by
    by_cases n : j = i
    · subst n; rw [gi] at e; cases e
    · exact ⟨n, by rw [gj j n] at e; exact e⟩
  have nj2 : ∀ (j : Nat) (es : List PyData), (Γ.set i (some (Ent.dat (.list ds))))[j]? = some (some (Ent.arg es)) → j ≠ i ∧ Γ[j]? = some (some (Ent.arg es)) := fun j es e => by
    by_cases n : j = i
    · subst n; rw [gi] at e; cases e
    · exact ⟨n, by rw [gj j n] at e; exact e⟩
  have dp : Dp K (upd D a (.lst xs)) (.ref a) (.list ds) := .lst (SqX.of upd_same) (dpAll_mono sm hd)
  refine ⟨⟨fun b u e => ?_, r.ext.trans sm, fun b u e => ?_, r.kept, by rw [List.length_set]; exact r.len, fun j d e => ?_, fun j es e => ?_, fun j es e => ?_, fun b e => ?_, fun j k es fs b e1 e2 => ?_, r.args⟩,
    ⟨sm, fun b u e _ => e, fun b z => ?_, fun b u e => ?_, fun b u e => ⟨u, e⟩⟩, dp⟩
  · by_cases hb : b = a
    · subst hb; rw [upd_same] at e; cases e; exact hH
    · rw [upd_ne hb] at e; exact r.sub b u e
  · by_cases hb : b = a
    · subst hb; exact .inr h0
    · rw [upd_ne hb] at e; exact r.new b u e
  · by_cases n : j = i
    · subst n
      rw [gi] at e; cases e
      exact ⟨_, hs, dp⟩
    · rw [gj j n] at e
      obtain ⟨v, e1, q⟩ := r.dat j d e
      exact ⟨v, e1, dp_mono sm q⟩
  · obtain ⟨n, e'⟩ := nj j es e
    obtain ⟨b, ys, e1, e2, e3, e4, e5⟩ := r.own j es e'
    have hb : b ≠ a := fun z => by -- k01
      subst z
      exact n (r.apart j i es ds _ e' hi e1 hs)
    exact ⟨b, ys, e1, e2, by rw [upd_ne hb]; exact e3, dpAll_mono sm e4, e5⟩
  · obtain ⟨n, e'⟩ := nj2 j es e
    obtain ⟨b, ys, e0, e1, e2, e3, e4⟩ := r.arg j es e'
    have hb : b ≠ a := fun z => by -- k01
      subst z
      obtain ⟨o, q⟩ := r.args _ e0
      rw [h0] at q; cases q
    exact ⟨b, ys, e0, e1, e2, by rw [upd_ne hb]; exact e3, dpAll_mono sm e4⟩
  · obtain ⟨es, e1, e2⟩ := r.a0 b e
    have n : (0 : Nat) ≠ i := fun z => by rw [← z, e1] at hi; cases hi
    exact ⟨es, by rw [gj 0 n]; exact e1, fun j fs q => e2 j fs (nj2 j fs q).2⟩
  · exact r.apart j k es fs b (nj j es e1).2 (nj k fs e2).2
  · obtain ⟨j, e1, e2⟩ := z
    refine ⟨j, e1, ?_⟩
    rcases e2 with ⟨es, e2⟩ | ⟨es, e2⟩
    · exact .inl ⟨es, (nj j es e2).2⟩
    · exact .inr ⟨es, (nj2 j es e2).2⟩
  · by_cases hb : b = a
    · subst hb; exact .inr (.inr ⟨i, hs, .inl ⟨ds, hi⟩⟩)
    · rw [upd_ne hb] at e; exact .inl e
theorem pd_of_var {e : Expr} {i : Nat} (h : PE X e (tVar i)) : PDE X R e (dVar i) := by
  refine ⟨pe_imp h fun σ H Q q => ?_, dVar_mono i⟩
  obtain ⟨Γ, D, r, q⟩ := q
  unfold dVar at q
  split at q
  · rename_i d e1
    obtain ⟨v, e2, dp⟩ := r.dat i d e1
    exact ⟨v, e2, q v H D r Step.refl dp⟩
  · rename_i ds e1
    obtain ⟨a, xs, h1, h2, h3, h4, h5⟩ := r.own i ds e1
    obtain ⟨r', st, dp⟩ := freeze r e1 h1 h2 h3 h4 h5
    exact ⟨_, h1, q _ H _ r' st dp⟩
  · exact q.elim
theorem pd_var (i : Nat) {x : Str} {pos : Pos} (hN : X.N[i]? = some x := by rfl) (hv : Vis X.env.scope x := by first | exact Or.inl rfl | exact Or.inr (Or.inl rfl) | exact Or.inr (Or.inr rfl)) (hd : (x == ("__debug__" : Str)) = false := by decide)
    (hcd : (x == ("__classdict__" : Str)) = false := by decide) : PDE X R (.Name x pos) (dVar i) := pd_of_var (pe_var hN hv hd hcd)
def dC (d : PyData) : DE := fun Γ Q => Q d Γ
theorem dC_mono (d : PyData) : MonoK (dC d) := fun _ _ _ m h => m _ _ h
theorem pd_of_c {e : Expr} {v : V} {d : PyData} (h : PE X e (tC v)) (hd : ∀ D, Dp X.K D v d) : PDE X R e (dC d) :=
  ⟨pe_imp h fun σ H Q ⟨Γ, D, r, q⟩ => q v H D r Step.refl (hd D), dC_mono d⟩
theorem pd_int {i j pos} : PDE X R (.Constant (.int i) j pos) (dC (.int i)) := pd_of_c pe_int fun _ => .int i
theorem pd_bl {b j pos} : PDE X R (.Constant (.bool b) j pos) (dC (.bool b)) := pd_of_c pe_bl fun _ => .bl b
theorem pd_non {j pos} : PDE X R (.Constant .none j pos) (dC .none) := pd_of_c pe_non fun _ => .non
theorem pd_str {x j pos} : PDE X R (.Constant (.str x) j pos) (dC (.str x)) := pd_of_c pe_str fun _ => .str x
theorem pd_glob {x : Str} {v : V} {d : PyData} {u : Value} {pos : Pos} (hg : Gl X x) (hm : X.mg x = some u) (r : RelV v u) (hd : ∀ D, Dp X.K D v d) (hdb : (x == ("__debug__" : Str)) = false := by decide) : PDE X R (.Name x pos) (dC d) := pd_of_c (pe_glob hg hm r hdb) hd


def OpD (K : PySem.W.Frag) (r : R2) (b : PyData → PyData → (PyData → Prop) → Prop) : Prop :=
  ∀ (D H : Hp) (x y : V) (d e : PyData) (Q : VK), Sub D H → Dp K D x d → Dp K D y e → b d e (fun z => ∀ v H' D', Grow D H D' H' → Dp K D' v z → Q v H') → r x y H Q
def MonoB (b : PyData → PyData → (PyData → Prop) → Prop) : Prop := ∀ d e (W W' : PyData → Prop), (∀ z, W z → W' z) → b d e W → b d e W'
def dOp (b : PyData → PyData → (PyData → Prop) → Prop) (da db : DE) : DE := fun Γ Q => da Γ fun d Γ1 => db Γ1 fun e Γ2 => b d e fun z => Q z Γ2
theorem dOp_mono {b : PyData → PyData → (PyData → Prop) → Prop} {da db : DE} (mb : MonoB b) (ma : MonoK da) (mb' : MonoK db) : MonoK (dOp b da db) := fun Γ W W' m h =>
  ma Γ _ _ (fun d Γ1 h1 => mb' Γ1 _ _ (fun e Γ2 h2 => mb d e _ _ (fun z q => m z Γ2 q) h2) h1) h
theorem op_imp {r : R2} {b : PyData → PyData → (PyData → Prop) → Prop} {da db : DE} (ho : OpD K r b) (mb : MonoB b) (ma : MonoK da) (mb' : MonoK db) {Q : VK} (q : liftE K R (dOp b da db) σ H Q) : tOp r (liftE K R da) (liftE K R db) σ H Q := by
  obtain ⟨Γ, D, r0, h⟩ := q
  refine goE r0 ma h fun d Γ1 v H1 D1 h1 r1 s1 q1 => ?_
  refine goE r1 mb' h1 fun e Γ2 u H2 D2 h2 r2 s2 q2 => ?_
  refine ho D2 H2 v u d e Q r2.sub (dp_mono s2.d q1) q2 (mb d e _ _ (fun z w v' H' D' g q3 => ?_) h2)
  exact w v' H' D' (r2.grow g) ((s1.trans s2).trans g.step) q3
theorem pd_op {op : Operator} {a b : Expr} {pos : Pos} {r : R2} {bb : PyData → PyData → (PyData → Prop) → Prop} {da db : DE} (ho : OpR X (binaryOp op) r) (hd : OpD X.K r bb) (mb : MonoB bb) (ha : PDE X R a da) (hb : PDE X R b db) : PDE X R (.BinOp a op b pos) (dOp bb da db) :=
  ⟨pe_imp (pe_op ho ha.pe hb.pe) fun _ _ _ q => op_imp hd mb ha.mono hb.mono q, dOp_mono mb ha.mono hb.mono⟩
theorem pd_cmp {op : CmpOp} {a b : Expr} {pos : Pos} {r : R2} {bb : PyData → PyData → (PyData → Prop) → Prop} {da db : DE} (ho : OpR X (compareOp op) r) (hd : OpD X.K r bb) (mb : MonoB bb) (ha : PDE X R a da) (hb : PDE X R b db) (hm : behindInMarks op b = false) : PDE X R (.Compare a [op] [b] pos) (dOp bb da db) :=
  ⟨pe_imp (pe_cmpR ho ha.pe hb.pe hm) fun _ _ _ q => op_imp hd mb ha.mono hb.mono q, dOp_mono mb ha.mono hb.mono⟩
def dTest (da : DE) : DT := fun Γ Q => da Γ fun d Γ1 => match d with | .bool b => Q b Γ1 | _ => False
theorem dTest_mono {da : DE} (ma : MonoK da) : MonoK (dTest da) := fun Γ W W' m h => ma Γ _ _ (fun d Γ1 h1 => by cases d <;> first | exact m _ _ h1 | exact h1) h
theorem pt_of_b {e : Expr} {da : DE} (ma : MonoK da) (h : PT X e (tB (liftE X.K R da))) : PDT X R e (dTest da) := by
  refine ⟨pt_imp h fun σ H Q q => ?_, dTest_mono ma⟩
  obtain ⟨Γ, D, r0, h⟩ := q
  refine goE r0 ma h fun d Γ1 v H1 D1 h1 r1 s1 q1 => ?_
  cases q1 with
  | bl b => exact ⟨b, rfl, h1 H1 D1 r1 s1⟩
  | non => exact h1.elim
  | int _ => exact h1.elim
  | str _ => exact h1.elim
  | lst _ _ => exact h1.elim
  | tup _ _ => exact h1.elim
theorem pdt_val {e : Expr} {da : DE} (h : PDE X R e da) (he : ∀ whole, isTrue e X.env whole = (do let v ← whole; standAt e.pos; holding [v] (truthy v)) := by intro _; rfl) : PDT X R e (dTest da) := pt_of_b h.mono (pt_val h.pe he)
theorem pdt_cmp {op : CmpOp} {a b : Expr} {pos : Pos} {r : R2} {bb : PyData → PyData → (PyData → Prop) → Prop} {da db : DE} (ho : OpR X (compareOp op) r) (hd : OpD X.K r bb) (mb : MonoB bb) (ha : PDE X R a da) (hb : PDE X R b db) (hm : behindInMarks op b = false) : PDT X R (.Compare a [op] [b] pos) (dTest (dOp bb da db)) := by
  refine ⟨pt_imp (pt_cmpR ho ha.pe hb.pe hm) fun σ H Q q => ?_, dTest_mono (dOp_mono mb ha.mono hb.mono)⟩
  obtain ⟨Γ, D, r0, h⟩ := q
  show tOp r (liftE X.K R da) (liftE X.K R db) σ H fun x H' => ∃ k, x = .bl k ∧ Q k H'
  refine op_imp hd mb ha.mono hb.mono ⟨Γ, D, r0, dOp_mono mb ha.mono hb.mono Γ _ _ (fun d Γ1 w v H' D' r' st q => ?_) h⟩
  cases q with
  | bl b => exact ⟨b, rfl, w H' D' r' st⟩
  | non => exact w.elim
  | int _ => exact w.elim
  | str _ => exact w.elim
  | lst _ _ => exact w.elim
  | tup _ _ => exact w.elim


def dAnd (t u : DT) : DT := fun Γ Q => t Γ fun c Γ1 => if c = true then u Γ1 Q else Q false Γ1
def dOr (t u : DT) : DT := fun Γ Q => t Γ fun c Γ1 => if c = true then Q true Γ1 else u Γ1 Q
def dNot (t : DT) : DT := fun Γ Q => t Γ fun c Γ1 => Q (!c) Γ1
theorem dAnd_mono {t u : DT} (mt : MonoK t) (mu : MonoK u) : MonoK (dAnd t u) := fun Γ W W' m h => mt Γ _ _ (fun c Γ1 q => by
  cases c with
  | true => exact mu Γ1 _ _ m q
  | false => exact m _ _ q) h
theorem dOr_mono {t u : DT} (mt : MonoK t) (mu : MonoK u) : MonoK (dOr t u) := fun Γ W W' m h => mt Γ _ _ (fun c Γ1 q => by
  cases c with
  | false => exact mu Γ1 _ _ m q
  | true => exact m _ _ q) h
theorem dNot_mono {t : DT} (mt : MonoK t) : MonoK (dNot t) := fun Γ W W' m h => mt Γ _ _ (fun c Γ1 q => m _ _ q) h
theorem pdw_and1 {a : Expr} {pos : Pos} {t : DT} (h : PDT X R a t) : PDW X R (.BoolOp .And [a] pos) t := ⟨pw_and1 h.pt, h.mono⟩
theorem pdw_or1 {a : Expr} {pos : Pos} {t : DT} (h : PDT X R a t) : PDW X R (.BoolOp .Or [a] pos) t := ⟨pw_or1 h.pt, h.mono⟩
theorem pdw_and {a b : Expr} {rest : List Expr} {pos : Pos} {t u : DT} (ha : PDT X R a t) (hb : PDW X R (.BoolOp .And (b :: rest) pos) u) : PDW X R (.BoolOp .And (a :: b :: rest) pos) (dAnd t u) := by
  refine ⟨pw_imp (pw_and ha.pt hb.pw) fun σ H Q q => ?_, dAnd_mono ha.mono hb.mono⟩
  obtain ⟨Γ, D, r0, h⟩ := q
  refine goT r0 ha.mono h fun c Γ1 H1 D1 h1 r1 s1 => ?_
  cases c with
  | true => exact goT r1 hb.mono h1 fun b Γ2 H2 D2 h2 r2 s2 => h2 H2 D2 r2 (s1.trans s2)
  | false => exact h1 H1 D1 r1 s1
theorem pdw_or {a b : Expr} {rest : List Expr} {pos : Pos} {t u : DT} (ha : PDT X R a t) (hb : PDW X R (.BoolOp .Or (b :: rest) pos) u) : PDW X R (.BoolOp .Or (a :: b :: rest) pos) (dOr t u) := by
  refine ⟨pw_imp (pw_or ha.pt hb.pw) fun σ H Q q => ?_, dOr_mono ha.mono hb.mono⟩
  obtain ⟨Γ, D, r0, h⟩ := q
  refine goT r0 ha.mono h fun c Γ1 H1 D1 h1 r1 s1 => ?_
  cases c with
  | false => exact goT r1 hb.mono h1 fun b Γ2 H2 D2 h2 r2 s2 => h2 H2 D2 r2 (s1.trans s2)
  | true => exact h1 H1 D1 r1 s1
theorem PDW.t {e : Expr} {t : DT} (h : PDW X R e t) : PDT X R e t := ⟨h.pw.pt, h.mono⟩
theorem pdt_not {a : Expr} {pos : Pos} {t : DT} (h : PDT X R a t) : PDT X R (.UnaryOp .Not a pos) (dNot t) := by
  refine ⟨pt_imp (pt_not h.pt) fun σ H Q q => ?_, dNot_mono h.mono⟩
  obtain ⟨Γ, D, r0, q⟩ := q
  exact goT r0 h.mono q fun c Γ1 H1 D1 h1 r1 s1 => h1 H1 D1 r1 s1
def dAndV (a b : DE) : DE := fun Γ Q => a Γ fun d Γ1 => match d with | .bool true => b Γ1 Q | .bool false => Q (.bool false) Γ1 | _ => False
def dOrV (a b : DE) : DE := fun Γ Q => a Γ fun d Γ1 => match d with | .bool false => b Γ1 Q | .bool true => Q (.bool true) Γ1 | _ => False
def dNotV (a : DE) : DE := fun Γ Q => a Γ fun d Γ1 => match d with | .bool b => Q (.bool (!b)) Γ1 | _ => False
theorem dAndV_mono {a b : DE} (ma : MonoK a) (mb : MonoK b) : MonoK (dAndV a b) := fun Γ W W' m h => ma Γ _ _ (fun d Γ1 q => by
  cases d <;> try exact q
  rename_i c
  cases c with
  | true => exact mb Γ1 _ _ m q
  | false => exact m _ _ q) h
theorem dOrV_mono {a b : DE} (ma : MonoK a) (mb : MonoK b) : MonoK (dOrV a b) := fun Γ W W' m h => ma Γ _ _ (fun d Γ1 q => by
  cases d <;> try exact q
  rename_i c
  cases c with
  | false => exact mb Γ1 _ _ m q
  | true => exact m _ _ q) h
theorem dNotV_mono {a : DE} (ma : MonoK a) : MonoK (dNotV a) := fun Γ W W' m h => ma Γ _ _ (fun d Γ1 q => by
  cases d <;> first | exact m _ _ q | exact q) h
theorem pde_one {op} {a : Expr} {pos : Pos} {t : DE} (h : PDE X R a t) : PDE X R (.BoolOp op [a] pos) t := ⟨pe_one h.pe, h.mono⟩
theorem pde_and {a b : Expr} {rest : List Expr} {pos : Pos} {t u : DE} (ha : PDE X R a t) (hb : PDE X R (.BoolOp .And (b :: rest) pos) u) : PDE X R (.BoolOp .And (a :: b :: rest) pos) (dAndV t u) := by
  refine ⟨pe_imp (pe_and ha.pe hb.pe) fun σ H Q q => ?_, dAndV_mono ha.mono hb.mono⟩
  obtain ⟨Γ, D, r0, h⟩ := q
  refine goE r0 ha.mono h fun d Γ1 v H1 D1 h1 r1 s1 q1 => ?_
  cases q1 with
  | bl c =>
    refine ⟨c, rfl, ?_⟩
    cases c with
    | true => exact goE r1 hb.mono h1 fun e Γ2 u H2 D2 h2 r2 s2 q2 => h2 u H2 D2 r2 (s1.trans s2) q2
    | false => exact h1 _ H1 D1 r1 s1 (.bl false)
  | non => exact h1.elim
  | int _ => exact h1.elim
  | str _ => exact h1.elim
  | lst _ _ => exact h1.elim
  | tup _ _ => exact h1.elim
theorem pde_or {a b : Expr} {rest : List Expr} {pos : Pos} {t u : DE} (ha : PDE X R a t) (hb : PDE X R (.BoolOp .Or (b :: rest) pos) u) : PDE X R (.BoolOp .Or (a :: b :: rest) pos) (dOrV t u) := by
  refine ⟨pe_imp (pe_or ha.pe hb.pe) fun σ H Q q => ?_, dOrV_mono ha.mono hb.mono⟩
  obtain ⟨Γ, D, r0, h⟩ := q
  refine goE r0 ha.mono h fun d Γ1 v H1 D1 h1 r1 s1 q1 => ?_
  cases q1 with
  | bl c =>
    refine ⟨c, rfl, ?_⟩
    cases c with
    | false => exact goE r1 hb.mono h1 fun e Γ2 u H2 D2 h2 r2 s2 q2 => h2 u H2 D2 r2 (s1.trans s2) q2
    | true => exact h1 _ H1 D1 r1 s1 (.bl true)
  | non => exact h1.elim
  | int _ => exact h1.elim
  | str _ => exact h1.elim
  | lst _ _ => exact h1.elim
  | tup _ _ => exact h1.elim
theorem pde_not {a : Expr} {pos : Pos} {t : DE} (h : PDE X R a t) : PDE X R (.UnaryOp .Not a pos) (dNotV t) := by
  refine ⟨pe_imp (pe_not h.pe) fun σ H Q q => ?_, dNotV_mono h.mono⟩
  obtain ⟨Γ, D, r0, q⟩ := q
  refine goE r0 h.mono q fun d Γ1 v H1 D1 h1 r1 s1 q1 => ?_
  cases q1 with
  | bl c => exact ⟨c, rfl, h1 _ H1 D1 r1 s1 (.bl _)⟩
  | non => exact h1.elim
  | int _ => exact h1.elim
  | str _ => exact h1.elim
  | lst _ _ => exact h1.elim
  | tup _ _ => exact h1.elim
def dIf (t : DT) (a b : DE) : DE := fun Γ Q => t Γ fun c Γ1 => if c = true then a Γ1 Q else b Γ1 Q
theorem dIf_mono {t : DT} {a b : DE} (mt : MonoK t) (ma : MonoK a) (mb : MonoK b) : MonoK (dIf t a b) := fun Γ W W' m h => mt Γ _ _ (fun c Γ1 q => by
  cases c with
  | true => exact ma Γ1 _ _ m q
  | false => exact mb Γ1 _ _ m q) h
theorem pde_if {c a b : Expr} {pos : Pos} {t : DT} {da db : DE} (hc : PDT X R c t) (ha : PDE X R a da) (hb : PDE X R b db) : PDE X R (.IfExp c a b pos) (dIf t da db) := by
  refine ⟨pe_imp (pe_ifExp hc.pt ha.pe hb.pe) fun σ H Q q => ?_, dIf_mono hc.mono ha.mono hb.mono⟩
  obtain ⟨Γ, D, r0, h⟩ := q
  refine goT r0 hc.mono h fun c Γ1 H1 D1 h1 r1 s1 => ?_
  cases c with
  | true => exact goE r1 ha.mono h1 fun e Γ2 u H2 D2 h2 r2 s2 q2 => h2 u H2 D2 r2 (s1.trans s2) q2
  | false => exact goE r1 hb.mono h1 fun e Γ2 u H2 D2 h2 r2 s2 q2 => h2 u H2 D2 r2 (s1.trans s2) q2


def dNil : DA := fun Γ Q => Q [] Γ
def dCons (a : DE) (b : DA) : DA := fun Γ Q => a Γ fun d Γ1 => b Γ1 fun ds Γ2 => Q (d :: ds) Γ2
theorem dNil_mono : MonoK dNil := fun _ _ _ m h => m _ _ h
theorem dCons_mono {a : DE} {b : DA} (ma : MonoK a) (mb : MonoK b) : MonoK (dCons a b) := fun Γ W W' m h => ma Γ _ _ (fun d Γ1 q => mb Γ1 _ _ (fun ds Γ2 q2 => m _ _ q2) q) h
theorem pda_nil : PDA X R [] dNil := ⟨pa_imp pa_nil fun σ H Q ⟨Γ, D, r, q⟩ => q [] H D r Step.refl .nil, dNil_mono⟩
theorem pda_cons {e : Expr} {es : List Expr} {a : DE} {b : DA} (ha : PDE X R e a) (hb : PDA X R es b) (hs : starEach (e :: es) X.env = (false, eval e X.env) :: starEach es X.env := by rfl) : PDA X R (e :: es) (dCons a b) := by
  refine ⟨pa_imp (pa_cons ha.pe hb.pa hs) fun σ H Q q => ?_, dCons_mono ha.mono hb.mono⟩
  obtain ⟨Γ, D, r0, h⟩ := q
  refine goE r0 ha.mono h fun d Γ1 v H1 D1 h1 r1 s1 q1 => ?_
  refine goA r1 hb.mono h1 fun ds Γ2 vs H2 D2 h2 r2 s2 q2 => ?_
  exact h2 (v :: vs) H2 D2 r2 (s1.trans s2) (.cons (dp_mono s2.d q1) q2)
def dTup (a : DA) : DE := fun Γ Q => a Γ fun ds Γ1 => ds.length ≤ 1000000 ∧ Q (.tuple ds) Γ1
def dLst (a : DA) : DA := fun Γ Q => a Γ fun ds Γ1 => ds.length ≤ 1000000 ∧ Q ds Γ1
theorem dTup_mono {a : DA} (ma : MonoK a) : MonoK (dTup a) := fun Γ W W' m h => ma Γ _ _ (fun ds Γ1 q => ⟨q.1, m _ _ q.2⟩) h
theorem dLst_mono {a : DA} (ma : MonoK a) : MonoK (dLst a) := fun Γ W W' m h => ma Γ _ _ (fun ds Γ1 q => ⟨q.1, m _ _ q.2⟩) h
theorem szM {n : Nat} (h : n ≤ 1000000) : n ≤ sizeLine := Nat.le_trans h (by decide)
theorem pde_tup {es : List Expr} {x1} {pos : Pos} {a : DA} (h : PDA X R es a) : PDE X R (.Tuple es x1 pos) (dTup a) := by
  refine ⟨pe_imp (pe_tup h.pa) fun σ H Q q => ?_, dTup_mono h.mono⟩
  obtain ⟨Γ, D, r0, q⟩ := q
  refine goA r0 h.mono q fun ds Γ1 vs H1 D1 h1 r1 s1 q1 => ?_
  refine ⟨by rw [dpAll_len q1]; exact szM h1.1, fun p hp => ?_⟩
  have g := Grow.upd (o := .tup vs) r1.sub hp
  exact h1.2 _ _ _ (r1.grow g) (s1.trans g.step) (.tup (SqT.of upd_same) (dpAll_mono g.d q1))
theorem mine_there {p : Addr} (r : Rep K R σ H Γ D) (m : Mine σ Γ p) : ∃ o, H p = some o := by
  obtain ⟨i, e, h⟩ := m
  rcases h with ⟨ds, h⟩ | ⟨ds, h⟩
  · obtain ⟨a, xs, e1, e2, _⟩ := r.own i ds h
    rw [e] at e1; cases e1
    exact ⟨_, e2⟩
  · obtain ⟨a, xs, _, e1, e2, _⟩ := r.arg i ds h
    rw [e] at e1; cases e1
    exact ⟨_, e2⟩
theorem mine_no {p : Addr} (r : Rep K R σ H Γ D) (h : H p = none) : ¬ Mine σ Γ p := fun m => by
  obtain ⟨o, e⟩ := mine_there r m
  rw [h] at e; cases e
theorem step_free {Γ' : DEnv} {D' H' : Hp} {p : Addr} (s : Step σ Γ D H Γ' D' H') (h : H' p = none) : H p = none := by
  cases q : H p with
  | none => rfl
  | some o =>
    obtain ⟨o', e⟩ := s.there p o q
    rw [h] at e; cases e
theorem d_none {p : Addr} (s : Sub D H) (h : H p = none) : D p = none := by
  cases q : D p with
  | none => rfl
  | some u => rw [s p u q] at h; cases h
theorem pdl_lst {es : List Expr} {pos : Pos} {a : DA} (h : PDA X R es a) : PDL X R (.List es pos) (dLst a) := by
  refine ⟨pe_imp (pe_lst h.pa) fun σ H Q q => ?_, dLst_mono h.mono⟩
  obtain ⟨Γ, D, r0, q⟩ := q
  refine goA r0 h.mono q fun ds Γ1 vs H1 D1 h1 r1 s1 q1 => ?_
  refine ⟨by rw [dpAll_len q1]; exact szM h1.1, fun p hp => ?_⟩
  have g := Grow.tmp (o := .lst vs) r1.sub hp
  exact h1.2 p vs _ D1 (r1.grow g) (s1.trans g.step) (step_free s1 hp) upd_same (d_none r1.sub hp) (mine_no r1 hp) q1
def dFrz (a : DA) : DE := fun Γ Q => a Γ fun ds Γ1 => Q (.list ds) Γ1
theorem dFrz_mono {a : DA} (ma : MonoK a) : MonoK (dFrz a) := fun Γ W W' m h => ma Γ _ _ (fun ds Γ1 q => m _ _ q) h
theorem frz_grow {p : Addr} {xs : List V} (r : Rep K R σ H Γ D) (h0 : R.H0 p = none) (hp : H p = some (.lst xs)) (hD : D p = none) (hm : ¬ Mine σ Γ p) : Rep K R σ H Γ (upd D p (.lst xs)) := by
  have sm : Same D (upd D p (.lst xs)) := fun b u e => by rw [upd_ne (ne_of_none e hD)]; exact e
  refine ⟨fun b u e => ?_, r.ext.trans sm, fun b u e => ?_, r.kept, r.len, fun j d e => ?_, fun j es e => ?_, fun j es e => ?_, r.a0, r.apart, r.args⟩
  · by_cases hb : b = p
    · subst hb; rw [upd_same] at e; cases e; exact hp
    · rw [upd_ne hb] at e; exact r.sub b u e
  · by_cases hb : b = p
    · subst hb; exact .inr h0
    · rw [upd_ne hb] at e; exact r.new b u e
  · obtain ⟨v, e1, q⟩ := r.dat j d e
    exact ⟨v, e1, dp_mono sm q⟩
  · obtain ⟨b, ys, e1, e2, e3, e4, e5⟩ := r.own j es e
    have hb : b ≠ p := fun z => hm ⟨j, by rw [← z]; exact e1, .inl ⟨es, e⟩⟩
    exact ⟨b, ys, e1, e2, by rw [upd_ne hb]; exact e3, dpAll_mono sm e4, e5⟩
  · obtain ⟨b, ys, e0, e1, e2, e3, e4⟩ := r.arg j es e
    have hb : b ≠ p := fun z => hm ⟨j, by rw [← z]; exact e1, .inr ⟨es, e⟩⟩
    exact ⟨b, ys, e0, e1, e2, by rw [upd_ne hb]; exact e3, dpAll_mono sm e4⟩
theorem h0_none {p : Addr} (r : Rep K R σ H Γ D) (h : H p = none) : R.H0 p = none := by
  cases q : R.H0 p with
  | none => rfl
  | some u =>
    by_cases n : R.A0 = some p
    · obtain ⟨ds, e, _⟩ := r.a0 p n
      obtain ⟨b, xs, e1, _, e3, _⟩ := r.arg 0 ds e
      rw [n] at e1; cases e1
      rw [e3] at h; cases h
    · rw [r.kept p u q n] at h; cases h
theorem pde_frz {e : Expr} {a : DA} (h : PDL X R e a) : PDE X R e (dFrz a) := by
  refine ⟨pe_imp h.pl fun σ H Q q => ?_, dFrz_mono h.mono⟩
  obtain ⟨Γ, D, r0, q⟩ := q
  refine goL r0 h.mono q fun ds Γ1 p xs H1 D1 h1 r1 s1 hp hp1 hD1 nm q1 => ?_
  have r2 := frz_grow r1 (h0_none r0 hp) hp1 hD1 nm
  have sm : Same D1 (upd D1 p (.lst xs)) := fun b u e => by rw [upd_ne (ne_of_none e hD1)]; exact e
  refine h1 (.ref p) H1 _ r2 ⟨s1.d.trans sm, s1.keep, s1.mine, fun b u e => ?_, s1.there⟩ (.lst (SqX.of upd_same) (dpAll_mono sm q1))
  by_cases hb : b = p
  · subst hb; exact .inr (.inl hp)
  · rw [upd_ne hb] at e; exact s1.new b u e
def CallD (K : PySem.W.Frag) (r : List V → Hp → VK → Prop) (c : List PyData → (PyData → Prop) → Prop) : Prop :=
  ∀ (D H : Hp) (xs : List V) (ds : List PyData) (Q : VK), Sub D H → DpAll K D xs ds → c ds (fun z => ∀ v H' D', Grow D H D' H' → Dp K D' v z → Q v H') → r xs H Q
def MonoC (c : List PyData → (PyData → Prop) → Prop) : Prop := ∀ ds (W W' : PyData → Prop), (∀ z, W z → W' z) → c ds W → c ds W'
def dCall (c : List PyData → (PyData → Prop) → Prop) (a : DA) : DE := fun Γ Q => a Γ fun ds Γ1 => c ds fun z => Q z Γ1
theorem dCall_mono {c : List PyData → (PyData → Prop) → Prop} {a : DA} (mc : MonoC c) (ma : MonoK a) : MonoK (dCall c a) := fun Γ W W' m h => ma Γ _ _ (fun ds Γ1 q => mc ds _ _ (fun z w => m z Γ1 w) q) h
theorem callB_imp {r : List V → Hp → VK → Prop} {c : List PyData → (PyData → Prop) → Prop} {a : DA} (hc : CallD K r c) (mc : MonoC c) (ma : MonoK a) {Q : VK} (q : liftE K R (dCall c a) σ H Q) : tCB r (liftA K R a) σ H Q := by
  obtain ⟨Γ, D, r0, h⟩ := q
  refine goA r0 ma h fun ds Γ1 vs H1 D1 h1 r1 s1 q1 => ?_
  exact hc D1 H1 vs ds Q r1.sub q1 (mc ds _ _ (fun z w v H' D' g q2 => w v H' D' (r1.grow g) (s1.trans g.step) q2) h1)
theorem pde_callB {x : Str} {id : String} {p pos : Pos} {e : Expr} {es : List Expr} {r : List V → Hp → VK → Prop} {c : List PyData → (PyData → Prop) → Prop} {a : DA} (hr : CallR X (.builtin id) r) (hc : CallD X.K r c) (mc : MonoC c) (hg : Gl X x) (hm : X.mg x = none) (hv : bootBuiltins x = some (.builtin id)) (ha : PDA X R (e :: es) a) (hn : x ≠ "__name__" := by decide) (hdb : (x == ("__debug__" : Str)) = false := by decide)
    (he : starEach (e :: es) X.env = (false, eval e X.env) :: starEach es X.env := by rfl) (hpl : (backTo pos (starEach es X.env)).any (·.1) = false := by rfl) : PDE X R (.Call (.Name x p) (e :: es) [] pos) (dCall c a) :=
  ⟨pe_imp (pe_callB hr hg hm hv ha.pa hn hdb he hpl) fun _ _ _ q => callB_imp hc mc ha.mono q, dCall_mono mc ha.mono⟩
theorem pde_callTy {x : Str} {T : String} {p pos : Pos} {e : Expr} {es : List Expr} {r : List V → Hp → VK → Prop} {c : List PyData → (PyData → Prop) → Prop} {a : DA} (hr : CallR X (.type T) r) (hc : CallD X.K r c) (mc : MonoC c) (hg : Gl X x) (hm : X.mg x = none) (hv : bootBuiltins x = some (.type T)) (ha : PDA X R (e :: es) a) (hn : x ≠ "__name__" := by decide) (hdb : (x == ("__debug__" : Str)) = false := by decide)
    (he : starEach (e :: es) X.env = (false, eval e X.env) :: starEach es X.env := by rfl) (hpl : (backTo pos (starEach es X.env)).any (·.1) = false := by rfl) : PDE X R (.Call (.Name x p) (e :: es) [] pos) (dCall c a) :=
  ⟨pe_imp (pe_callTy hr hg hm hv ha.pa hn hdb he hpl) fun _ _ _ q => callB_imp hc mc ha.mono q, dCall_mono mc ha.mono⟩
end
end DL

set_option Elab.async false
set_option linter.all false
set_option maxRecDepth 100000
namespace DL
open PySem PySem.Spec PyProof.Rows L2


def dSet (i : Nat) (e : Ent) (Γ : DEnv) (Q : DEnv → Prop) : Prop := match Γ[i]? with
  | some (some (Ent.arg _)) => False
  | some _ => Q (Γ.set i (some e))
  | none => False
theorem dSet_mono {i : Nat} {e : Ent} {Γ : DEnv} {Q Q' : DEnv → Prop} (m : ∀ Γ, Q Γ → Q' Γ) (h : dSet i e Γ Q) : dSet i e Γ Q' := by
  unfold dSet at h ⊢
  split at h
  · exact h
  · exact m _ h
  · exact h
section
variable {X : Cx} {R : Root} {K : PySem.W.Frag} {σ : L2.St} {H D : Hp} {Γ : DEnv}
theorem Rep.setD {i : Nat} {v : V} {d : PyData} {c : Option Ent} (r : Rep K R σ H Γ D) (hi : Γ[i]? = some c) (hn : ∀ ds, c ≠ some (Ent.arg ds)) (hd : Dp K D v d) : Rep K R (σ.set i (some v)) H (Γ.set i (some (Ent.dat d))) D := by
  have hil : i < Γ.length := (List.getElem?_eq_some_iff.mp hi).1
  have his : i < σ.length := by rw [r.len]; exact hil
  have gi : (Γ.set i (some (Ent.dat d)))[i]? = some (some (Ent.dat d)) := List.getElem?_set_self hil
  have gj : ∀ j, j ≠ i → (Γ.set i (some (Ent.dat d)))[j]? = Γ[j]? := fun j n => List.getElem?_set_ne (Ne.symm n)
  have sj : ∀ j, j ≠ i → (σ.set i (some v))[j]? = σ[j]? := fun j n => List.getElem?_set_ne (Ne.symm n)
  have nj : ∀ (j : Nat) (es : List PyData), (Γ.set i (some (Ent.dat d)))[j]? = some (some (Ent.own es)) → j ≠ i ∧ Γ[j]? = some (some (Ent.own es)) := fun j es e => by
    by_cases n : j = i
    · subst n; rw [gi] at e; cases e
    · exact ⟨n, by rw [gj j n] at e; exact e⟩
  have nj2 : ∀ (j : Nat) (es : List PyData), (Γ.set i (some (Ent.dat d)))[j]? = some (some (Ent.arg es)) → j ≠ i ∧ Γ[j]? = some (some (Ent.arg es)) := fun j es e => by
    by_cases n : j = i
    · subst n; rw [gi] at e; cases e
    · exact ⟨n, by rw [gj j n] at e; exact e⟩
  refine ⟨r.sub, r.ext, r.new, r.kept, by rw [List.length_set, List.length_set]; exact r.len, fun j d' e => ?_, fun j es e => ?_, fun j es e => ?_, fun b e => ?_, fun j k es fs b e1 e2 e3 e4 => ?_, r.args⟩
  · by_cases n : j = i
    · subst n
      rw [gi] at e; cases e
      exact ⟨v, List.getElem?_set_self his, hd⟩
    · rw [gj j n] at e
      rw [sj j n]
      exact r.dat j d' e
  · obtain ⟨n, e'⟩ := nj j es e
    rw [sj j n]
    exact r.own j es e'
  · obtain ⟨n, e'⟩ := nj2 j es e
    rw [sj j n]
    exact r.arg j es e'
  · obtain ⟨es, e1, e2⟩ := r.a0 b e
    have n : (0 : Nat) ≠ i := fun z => by
      rw [← z, e1] at hi
      exact hn es (Option.some.inj hi).symm
    exact ⟨es, by rw [gj 0 n]; exact e1, fun j fs q => e2 j fs (nj2 j fs q).2⟩
  · obtain ⟨n1, e1'⟩ := nj j es e1
    obtain ⟨n2, e2'⟩ := nj k fs e2
    rw [sj j n1] at e3
    rw [sj k n2] at e4
    exact r.apart j k es fs b e1' e2' e3 e4
theorem Rep.setO {i : Nat} {p : Addr} {xs : List V} {ds : List PyData} {c : Option Ent} (r : Rep K R σ H Γ D) (hi : Γ[i]? = some c) (hn : ∀ ds, c ≠ some (Ent.arg ds)) (h0 : R.H0 p = none) (hp : H p = some (.lst xs)) (hD : D p = none) (hm : ¬ Mine σ Γ p) (hd : DpAll K D xs ds) :
    Rep K R (σ.set i (some (.ref p))) H (Γ.set i (some (Ent.own ds))) D := by
  have hil : i < Γ.length := (List.getElem?_eq_some_iff.mp hi).1
  have his : i < σ.length := by rw [r.len]; exact hil
  have gi : (Γ.set i (some (Ent.own ds)))[i]? = some (some (Ent.own ds)) := List.getElem?_set_self hil
  have gj : ∀ j, j ≠ i → (Γ.set i (some (Ent.own ds)))[j]? = Γ[j]? := fun j n => List.getElem?_set_ne (Ne.symm n)
  have si : (σ.set i (some (V.ref p)))[i]? = some (some (V.ref p)) := List.getElem?_set_self his
  have sj : ∀ j, j ≠ i → (σ.set i (some (V.ref p)))[j]? = σ[j]? := fun j n => List.getElem?_set_ne (Ne.symm n)
  have nj2 : ∀ (j : Nat) (es : List PyData), (Γ.set i (some (Ent.own ds)))[j]? = some (some (Ent.arg es)) → j ≠ i ∧ Γ[j]? = some (some (Ent.arg es)) := fun j es e => by
    by_cases n : j = i
    · subst n; rw [gi] at e; cases e
    · exact ⟨n, by rw [gj j n] at e; exact e⟩
  refine ⟨r.sub, r.ext, r.new, r.kept, by rw [List.length_set, List.length_set]; exact r.len, fun j d' e => ?_, fun j es e => ?_, fun j es e => ?_, fun b e => ?_, fun j k es fs b e1 e2 e3 e4 => ?_, r.args⟩
  · by_cases n : j = i
    · subst n
      rw [gi] at e; cases e
    · rw [gj j n] at e
      rw [sj j n]
      exact r.dat j d' e
  · by_cases n : j = i
    · subst n
      rw [gi] at e; cases e
      exact ⟨p, xs, si, hp, hD, hd, h0⟩
    · rw [gj j n] at e
      rw [sj j n]
      exact r.own j es e
  · obtain ⟨n, e'⟩ := nj2 j es e
    rw [sj j n]
    exact r.arg j es e'
  · obtain ⟨es, e1, e2⟩ := r.a0 b e
    have n : (0 : Nat) ≠ i := fun z => by
      rw [← z, e1] at hi
      exact hn es (Option.some.inj hi).symm
    exact ⟨es, by rw [gj 0 n]; exact e1, fun j fs q => e2 j fs (nj2 j fs q).2⟩
  · by_cases n1 : j = i
    · by_cases n2 : k = i
      · rw [n1, n2]
      · subst n1
        rw [si] at e3
        have e3' := Option.some.inj (Option.some.inj e3)
        cases e3'
        rw [gj k n2] at e2
        rw [sj k n2] at e4
        exact (hm ⟨k, e4, .inl ⟨fs, e2⟩⟩).elim
    · by_cases n2 : k = i
      · subst n2
        rw [si] at e4
        have e4' := Option.some.inj (Option.some.inj e4)
        cases e4'
        rw [gj j n1] at e1
        rw [sj j n1] at e3
        exact (hm ⟨j, e3, .inl ⟨es, e1⟩⟩).elim
      · rw [gj j n1] at e1
        rw [gj k n2] at e2
        rw [sj j n1] at e3
        rw [sj k n2] at e4
        exact r.apart j k es fs b e1 e2 e3 e4
theorem Rep.chg {i : Nat} {ds es : List PyData} {a : Addr} {xs ys : List V} (r : Rep K R σ H Γ D) (hi : Γ[i]? = some (some (Ent.own ds))) (hs : σ[i]? = some (some (V.ref a))) (hH : H a = some (.lst xs)) (hd : DpAll K D ys es) :
    Rep K R σ (upd H a (.lst ys)) (Γ.set i (some (Ent.own es))) D ∧ Step σ Γ D H (Γ.set i (some (Ent.own es))) D (upd H a (.lst ys)) := by
  obtain ⟨a', xs', q1, q2, q3, q4, q5⟩ := r.own i ds hi
  rw [hs] at q1
  obtain rfl : a = a' := by cases q1; rfl
  have hil : i < Γ.length := (List.getElem?_eq_some_iff.mp hi).1
  have gi : (Γ.set i (some (Ent.own es)))[i]? = some (some (Ent.own es)) := List.getElem?_set_self hil
  have gj : ∀ j, j ≠ i → (Γ.set i (some (Ent.own es)))[j]? = Γ[j]? := fun j n => List.getElem?_set_ne (Ne.symm n)
  have own : ∀ (j : Nat) (fs : List PyData), (Γ.set i (some (Ent.own es)))[j]? = some (some (Ent.own fs)) → ∃ gs, Γ[j]? = some (some (Ent.own gs)) := fun j fs e => by
    by_cases n : j = i
    · subst n; exact ⟨ds, hi⟩
    · rw [gj j n] at e; exact ⟨fs, e⟩
  have arg : ∀ (j : Nat) (fs : List PyData), (Γ.set i (some (Ent.own es)))[j]? = some (some (Ent.arg fs)) → j ≠ i ∧ Γ[j]? = some (some (Ent.arg fs)) := fun j fs e => by
    by_cases n : j = i
    · subst n; rw [gi] at e; cases e
    · rw [gj j n] at e; exact ⟨n, e⟩
  refine ⟨⟨fun b u e => ?_, r.ext, r.new, fun b u e n => ?_, by rw [List.length_set]; exact r.len, fun j d e => ?_, fun j fs e => ?_, fun j fs e => ?_, fun b e => ?_, fun j k fs gs b e1 e2 e3 e4 => ?_, r.args⟩,
    ⟨Same.refl _, fun b u e nm => ?_, fun b z => ?_, fun b u e => .inl e, fun b u e => ?_⟩⟩
  · rw [upd_ne (ne_of_none e q3)]; exact r.sub b u e
  · rw [upd_ne (ne_of_none e q5)]; exact r.kept b u e n
  · by_cases n : j = i
    · subst n; rw [gi] at e; cases e
    · rw [gj j n] at e; exact r.dat j d e
  · by_cases n : j = i
    · subst n
      rw [gi] at e; cases e
      exact ⟨a, ys, hs, upd_same, q3, hd, q5⟩
    · rw [gj j n] at e
      obtain ⟨b, zs, e1, e2, e3, e4, e5⟩ := r.own j fs e
      have hb : b ≠ a := fun z => by -- k01
        subst z
        exact n (r.apart j i fs ds _ e hi e1 hs)
      exact ⟨b, zs, e1, by rw [upd_ne hb]; exact e2, e3, e4, e5⟩
  · obtain ⟨n, e'⟩ := arg j fs e
    obtain ⟨b, zs, e0, e1, e2, e3, e4⟩ := r.arg j fs e'
    have hb : b ≠ a := fun z => by -- k01
      subst z
      obtain ⟨o, q⟩ := r.args _ e0
      rw [q5] at q; cases q
    exact ⟨b, zs, e0, e1, by rw [upd_ne hb]; exact e2, e3, e4⟩
  · obtain ⟨fs, e1, e2⟩ := r.a0 b e
    have n : (0 : Nat) ≠ i := fun z => by rw [← z, e1] at hi; cases hi
    exact ⟨fs, by rw [gj 0 n]; exact e1, fun j gs q => e2 j gs (arg j gs q).2⟩
  · obtain ⟨fs', e1'⟩ := own j fs e1
    obtain ⟨gs', e2'⟩ := own k gs e2
    exact r.apart j k fs' gs' b e1' e2' e3 e4
  · have hb : b ≠ a := fun z => nm ⟨i, by rw [z]; exact hs, .inl ⟨ds, hi⟩⟩
    rw [upd_ne hb]; exact e
  · obtain ⟨j, e1, e2⟩ := z
    refine ⟨j, e1, ?_⟩
    rcases e2 with ⟨fs, e2⟩ | ⟨fs, e2⟩
    · exact .inl (own j fs e2)
    · exact .inr ⟨fs, (arg j fs e2).2⟩
  · by_cases hb : b = a
    · subst hb; exact ⟨_, upd_same⟩
    · exact ⟨u, by rw [upd_ne hb]; exact e⟩
theorem Rep.chgA {i : Nat} {ds es : List PyData} {a : Addr} {xs ys : List V} (r : Rep K R σ H Γ D) (hi : Γ[i]? = some (some (Ent.arg ds))) (hs : σ[i]? = some (some (V.ref a))) (hH : H a = some (.lst xs)) (hd : DpAll K D ys es) :
    Rep K R σ (upd H a (.lst ys)) (Γ.set i (some (Ent.arg es))) D ∧ Step σ Γ D H (Γ.set i (some (Ent.arg es))) D (upd H a (.lst ys)) := by
  obtain ⟨a', xs', q0, q1, q2, q3, q4⟩ := r.arg i ds hi
  rw [hs] at q1
  obtain rfl : a = a' := by cases q1; rfl
  have hil : i < Γ.length := (List.getElem?_eq_some_iff.mp hi).1
  have gi : (Γ.set i (some (Ent.arg es)))[i]? = some (some (Ent.arg es)) := List.getElem?_set_self hil
  have gj : ∀ j, j ≠ i → (Γ.set i (some (Ent.arg es)))[j]? = Γ[j]? := fun j n => List.getElem?_set_ne (Ne.symm n)
  have i0 : i = 0 := by
    obtain ⟨fs, e1, e2⟩ := r.a0 a q0
    exact e2 i ds hi
  have arg : ∀ (j : Nat) (fs : List PyData), (Γ.set i (some (Ent.arg es)))[j]? = some (some (Ent.arg fs)) → ∃ gs, Γ[j]? = some (some (Ent.arg gs)) := fun j fs e => by
    by_cases n : j = i
    · subst n; exact ⟨ds, hi⟩
    · rw [gj j n] at e; exact ⟨fs, e⟩
  have own : ∀ (j : Nat) (fs : List PyData), (Γ.set i (some (Ent.arg es)))[j]? = some (some (Ent.own fs)) → j ≠ i ∧ Γ[j]? = some (some (Ent.own fs)) := fun j fs e => by
    by_cases n : j = i
    · subst n; rw [gi] at e; cases e
    · rw [gj j n] at e; exact ⟨n, e⟩
  refine ⟨⟨fun b u e => ?_, r.ext, r.new, fun b u e n => ?_, by rw [List.length_set]; exact r.len, fun j d e => ?_, fun j fs e => ?_, fun j fs e => ?_, fun b e => ?_, fun j k fs gs b e1 e2 e3 e4 => ?_, r.args⟩,
    ⟨Same.refl _, fun b u e nm => ?_, fun b z => ?_, fun b u e => .inl e, fun b u e => ?_⟩⟩
  · rw [upd_ne (ne_of_none e q3)]; exact r.sub b u e
  · have hb : b ≠ a := fun z => by rw [z] at n; exact n q0
    rw [upd_ne hb]; exact r.kept b u e n
  · by_cases n : j = i
    · subst n; rw [gi] at e; cases e
    · rw [gj j n] at e; exact r.dat j d e
  · obtain ⟨n, e'⟩ := own j fs e
    obtain ⟨b, zs, e1, e2, e3, e4, e5⟩ := r.own j fs e'
    have hb : b ≠ a := fun z => by -- k01
      subst z
      obtain ⟨o, q⟩ := r.args _ q0
      rw [e5] at q; cases q
    exact ⟨b, zs, e1, by rw [upd_ne hb]; exact e2, e3, e4, e5⟩
  · by_cases n : j = i
    · subst n
      rw [gi] at e; cases e
      exact ⟨a, ys, q0, hs, upd_same, q3, hd⟩
    · rw [gj j n] at e
      obtain ⟨gs, e1, e2⟩ := r.a0 a q0
      exact (n ((e2 j fs e).trans i0.symm)).elim
  · obtain ⟨fs, e1, e2⟩ := r.a0 b e
    rw [q0] at e; cases e
    refine ⟨es, by rw [← i0]; exact gi, fun j gs q => ?_⟩
    obtain ⟨hs', q'⟩ := arg j gs q
    exact e2 j hs' q'
  · exact r.apart j k fs gs b (own j fs e1).2 (own k gs e2).2 e3 e4
  · have hb : b ≠ a := fun z => nm ⟨i, by rw [z]; exact hs, .inr ⟨ds, hi⟩⟩
    rw [upd_ne hb]; exact e
  · obtain ⟨j, e1, e2⟩ := z
    refine ⟨j, e1, ?_⟩
    rcases e2 with ⟨fs, e2⟩ | ⟨fs, e2⟩
    · exact .inl ⟨fs, (own j fs e2).2⟩
    · exact .inr (arg j fs e2)
  · by_cases hb : b = a
    · subst hb; exact ⟨_, upd_same⟩
    · exact ⟨u, by rw [upd_ne hb]; exact e⟩
end


structure DEnds where
  nx : DEnv → Prop
  rt : PyData → DEnv → Prop
  bk : DEnv → Prop := fun _ => False
  ct : DEnv → Prop := fun _ => False
abbrev DS := DEnds → DEnv → Prop
structure Le (E E' : DEnds) : Prop where
  nx : ∀ Γ, E.nx Γ → E'.nx Γ
  rt : ∀ d Γ, E.rt d Γ → E'.rt d Γ
  bk : ∀ Γ, E.bk Γ → E'.bk Γ
  ct : ∀ Γ, E.ct Γ → E'.ct Γ
def MonoS (s : DS) : Prop := ∀ E E' Γ, Le E E' → s E Γ → s E' Γ
def endsOf (K : PySem.W.Frag) (R : Root) (E : Ends) (D : Hp) : DEnds :=
  { nx := fun Γ' => ∀ σ' H' D', Rep K R σ' H' Γ' D' → Same D D' → E.nx σ' H'
    rt := fun d Γ' => ∀ v σ' H' D', Rep K R σ' H' Γ' D' → Same D D' → Dp K D' v d → E.rt v H'
    bk := fun Γ' => ∀ σ' H' D', Rep K R σ' H' Γ' D' → Same D D' → E.bk σ' H'
    ct := fun Γ' => ∀ σ' H' D', Rep K R σ' H' Γ' D' → Same D D' → E.ct σ' H' }
def liftS (K : PySem.W.Frag) (R : Root) (s : DS) : TS := fun E σ H => ∃ Γ D, Rep K R σ H Γ D ∧ s (endsOf K R E D) Γ
structure PDS (X : Cx) (R : Root) (st : Stmt) (s : DS) : Prop where
  ps : PS X st (liftS X.K R s)
  mono : MonoS s
structure PDSs (X : Cx) (R : Root) (st : List Stmt) (s : DS) : Prop where
  pss : PSs X st (liftS X.K R s)
  mono : MonoS s
section
variable {X : Cx} {R : Root} {K : PySem.W.Frag} {σ : L2.St} {H D : Hp} {Γ : DEnv}
theorem ends_le {E : Ends} {D D' : Hp} (s : Same D D') : Le (endsOf K R E D) (endsOf K R E D') :=
  ⟨fun Γ h σ' H' D2 r q => h σ' H' D2 r (s.trans q), fun d Γ h v σ' H' D2 r q => h v σ' H' D2 r (s.trans q), fun Γ h σ' H' D2 r q => h σ' H' D2 r (s.trans q), fun Γ h σ' H' D2 r q => h σ' H' D2 r (s.trans q)⟩
def dNext : DS := fun E Γ => E.nx Γ
theorem pdss_nil : PDSs X R [] dNext := ⟨pss_imp pss_nil fun E σ H ⟨Γ, D, r, h⟩ => h σ H D r (Same.refl _), fun E E' Γ l h => l.nx _ h⟩
def dSeq (s t : DS) : DS := fun E Γ => s { E with nx := t E } Γ
theorem dSeq_mono {s t : DS} (ms : MonoS s) (mt : MonoS t) : MonoS (dSeq s t) := fun E E' Γ l h => ms { E with nx := t E } { E' with nx := t E' } Γ ⟨fun Γ1 q => mt E E' Γ1 l q, l.rt, l.bk, l.ct⟩ h
theorem pdss_cons {st : Stmt} {rest : List Stmt} {s t : DS} (h1 : PDS X R st s) (h2 : PDSs X R rest t) : PDSs X R (st :: rest) (dSeq s t) := by
  refine ⟨pss_imp (pss_cons h1.ps h2.pss) fun E σ H ⟨Γ, D, r, h⟩ => ⟨Γ, D, r, h1.mono { endsOf X.K R E D with nx := t (endsOf X.K R E D) } _ Γ ⟨fun Γ1 q σ' H' D' r' sm => ⟨Γ1, D', r', h2.mono _ _ Γ1 (ends_le sm) q⟩, fun _ _ q => q, fun _ q => q, fun _ q => q⟩ h⟩, dSeq_mono h1.mono h2.mono⟩
theorem pdss_one {st : Stmt} {s : DS} (h1 : PDS X R st s) : PDSs X R [st] s := ⟨pss_one h1.ps, h1.mono⟩
theorem pds_pass {pos : Pos} : PDS X R (.Pass pos) dNext := ⟨ps_imp ps_pass fun E σ H ⟨Γ, D, r, h⟩ => h σ H D r (Same.refl _), fun E E' Γ l h => l.nx _ h⟩
def dBreak : DS := fun E Γ => E.bk Γ
def dCont : DS := fun E Γ => E.ct Γ
theorem pds_break {pos : Pos} : PDS X R (.Break pos) dBreak := ⟨ps_imp ps_break fun E σ H ⟨Γ, D, r, h⟩ => h σ H D r (Same.refl _), fun E E' Γ l h => l.bk _ h⟩
theorem pds_continue {pos : Pos} : PDS X R (.Continue pos) dCont := ⟨ps_imp ps_continue fun E σ H ⟨Γ, D, r, h⟩ => h σ H D r (Same.refl _), fun E E' Γ l h => l.ct _ h⟩
def dRet (a : DE) : DS := fun E Γ => a Γ fun d Γ1 => E.rt d Γ1
theorem dRet_mono {a : DE} (ma : MonoK a) : MonoS (dRet a) := fun E E' Γ l h => ma Γ _ _ (fun d Γ1 q => l.rt d Γ1 q) h
theorem pds_ret {e : Expr} {pos : Pos} {a : DE} (h : PDE X R e a) : PDS X R (.Return (some e) pos) (dRet a) := by
  refine ⟨ps_imp (ps_ret h.pe) fun E σ H ⟨Γ, D, r, q⟩ => ?_, dRet_mono h.mono⟩
  exact goE r h.mono q fun d Γ1 v H1 D1 h1 r1 s1 q1 => h1 v σ H1 D1 r1 s1.d q1
def dRetN : DS := fun E Γ => E.rt .none Γ
theorem pds_retN {pos : Pos} : PDS X R (.Return none pos) dRetN := ⟨ps_imp ps_retN fun E σ H ⟨Γ, D, r, q⟩ => q .non σ H D r (Same.refl _) .non, fun E E' Γ l h => l.rt _ _ h⟩
def dIfS (t : DT) (a b : DS) : DS := fun E Γ => t Γ fun c Γ1 => if c = true then a E Γ1 else b E Γ1
theorem dIfS_mono {t : DT} {a b : DS} (mt : MonoK t) (ma : MonoS a) (mb : MonoS b) : MonoS (dIfS t a b) := fun E E' Γ l h => mt Γ _ _ (fun c Γ1 q => by
  cases c with
  | true => exact ma E E' Γ1 l q
  | false => exact mb E E' Γ1 l q) h
theorem pds_if {c : Expr} {a b : List Stmt} {pos : Pos} {t : DT} {s u : DS} (hc : PDT X R c t) (ha : PDSs X R a s) (hb : PDSs X R b u) : PDS X R (.If c a b pos) (dIfS t s u) := by
  refine ⟨ps_imp (ps_if hc.pt ha.pss hb.pss) fun E σ H ⟨Γ, D, r, q⟩ => ?_, dIfS_mono hc.mono ha.mono hb.mono⟩
  refine goT r hc.mono q fun c Γ1 H1 D1 h1 r1 s1 => ?_
  cases c with
  | true => exact ⟨Γ1, D1, r1, ha.mono _ _ Γ1 (ends_le s1.d) h1⟩
  | false => exact ⟨Γ1, D1, r1, hb.mono _ _ Γ1 (ends_le s1.d) h1⟩
def dAsg (a : DE) (i : Nat) : DS := fun E Γ => a Γ fun d Γ1 => dSet i (Ent.dat d) Γ1 E.nx
theorem dAsg_mono {a : DE} {i : Nat} (ma : MonoK a) : MonoS (dAsg a i) := fun E E' Γ l h => ma Γ _ _ (fun d Γ1 q => dSet_mono l.nx q) h
theorem setD_go {i : Nat} {v : V} {d : PyData} {Q : DEnv → Prop} (r : Rep K R σ H Γ D) (hd : Dp K D v d) (h : dSet i (Ent.dat d) Γ Q) : ∃ Γ', Q Γ' ∧ Rep K R (σ.set i (some v)) H Γ' D := by
  unfold dSet at h
  split at h
  · exact h.elim
  · rename_i c hc e
    exact ⟨_, h, r.setD e (fun ds z => hc ds z) hd⟩
  · exact h.elim
theorem setO_go {i : Nat} {p : Addr} {xs : List V} {ds : List PyData} {Q : DEnv → Prop} (r : Rep K R σ H Γ D) (h0 : R.H0 p = none) (hp : H p = some (.lst xs)) (hD : D p = none) (hm : ¬ Mine σ Γ p) (hd : DpAll K D xs ds) (h : dSet i (Ent.own ds) Γ Q) :
    ∃ Γ', Q Γ' ∧ Rep K R (σ.set i (some (.ref p))) H Γ' D := by
  unfold dSet at h
  split at h
  · exact h.elim
  · rename_i c hc e
    exact ⟨_, h, r.setO e (fun ds z => hc ds z) h0 hp hD hm hd⟩
  · exact h.elim
theorem pds_set {i : Nat} {x : Str} {e : Expr} {a : DE} {pos pos' : Pos} (hN : X.N.Nodup) (he : PDE X R e a) (hi : X.N[i]? = some x := by rfl) (hx : Loc X.env.scope x := by first | exact Or.inl rfl | exact Or.inr rfl) (hs : swapsWith e (some (.Name x pos')) pos.line X.env = pure false := by rfl) (hf : X.fn x = true ∨ X.env.scope.names.lookup x = some .local := by first | exact .inl rfl | exact .inr rfl | assumption) :
    PDS X R (.Assign [.Name x pos'] e pos) (dAsg a i) := by
  refine ⟨ps_imp (ps_set hN hi hx he.pe hs hf) fun E σ H ⟨Γ, D, r, q⟩ => ?_, dAsg_mono he.mono⟩
  refine goE r he.mono q fun d Γ1 v H1 D1 h1 r1 s1 q1 => ?_
  obtain ⟨Γ2, h2, r2⟩ := setD_go r1 q1 h1
  exact h2 _ H1 D1 r2 s1.d
def dAsgO (a : DA) (i : Nat) : DS := fun E Γ => a Γ fun ds Γ1 => dSet i (Ent.own ds) Γ1 E.nx
theorem dAsgO_mono {a : DA} {i : Nat} (ma : MonoK a) : MonoS (dAsgO a i) := fun E E' Γ l h => ma Γ _ _ (fun d Γ1 q => dSet_mono l.nx q) h
theorem pds_setO {i : Nat} {x : Str} {e : Expr} {a : DA} {pos pos' : Pos} (hN : X.N.Nodup) (he : PDL X R e a) (hi : X.N[i]? = some x := by rfl) (hx : Loc X.env.scope x := by first | exact Or.inl rfl | exact Or.inr rfl) (hs : swapsWith e (some (.Name x pos')) pos.line X.env = pure false := by rfl) (hf : X.fn x = true ∨ X.env.scope.names.lookup x = some .local := by first | exact .inl rfl | exact .inr rfl | assumption) :
    PDS X R (.Assign [.Name x pos'] e pos) (dAsgO a i) := by
  refine ⟨ps_imp (ps_set hN hi hx he.pl hs hf) fun E σ H ⟨Γ, D, r, q⟩ => ?_, dAsgO_mono he.mono⟩
  refine goL r he.mono q fun ds Γ1 p xs H1 D1 h1 r1 s1 hp hp1 hD1 nm q1 => ?_
  obtain ⟨Γ2, h2, r2⟩ := setO_go r1 (h0_none r hp) hp1 hD1 nm q1 h1
  exact h2 _ H1 D1 r2 s1.d
def dDrop (a : DE) : DS := fun E Γ => a Γ fun _ Γ1 => E.nx Γ1
theorem pds_expr {e : Expr} {a : DE} {pos : Pos} (he : PDE X R e a) (hs : swapsWith e none pos.line X.env = pure false := by rfl) : PDS X R (.Expr e pos) (dDrop a) := by
  refine ⟨ps_imp (ps_expr he.pe hs) fun E σ H ⟨Γ, D, r, q⟩ => ?_, fun E E' Γ l h => he.mono Γ _ _ (fun d Γ1 q => l.nx _ q) h⟩
  exact goE r he.mono q fun d Γ1 v H1 D1 h1 r1 s1 q1 => h1 σ H1 D1 r1 s1.d


abbrev DG := PyData → DEnv → (DEnv → Prop) → Prop
abbrev DGs := List PyData → DEnv → (DEnv → Prop) → Prop
structure Off (js : List Nat) (σ : L2.St) (Γ : DEnv) (σ' : L2.St) (Γ' : DEnv) : Prop where
  len : σ'.length = σ.length
  slots : ∀ i : Nat, i ∉ js → σ'[i]? = σ[i]?
  mine : ∀ a, Mine σ' Γ' a → Mine σ Γ a
theorem Off.refl {js : List Nat} : Off js σ Γ σ Γ := ⟨rfl, fun _ _ => rfl, fun _ h => h⟩
theorem Off.trans {js js' : List Nat} {σ1 σ2 : L2.St} {Γ1 Γ2 : DEnv} (a : Off js σ Γ σ1 Γ1) (b : Off js' σ1 Γ1 σ2 Γ2) : Off (js ++ js') σ Γ σ2 Γ2 :=
  ⟨b.len.trans a.len, fun i h => (b.slots i fun z => h (List.mem_append_right _ z)).trans (a.slots i fun z => h (List.mem_append_left _ z)), fun x h => a.mine x (b.mine x h)⟩
def liftG (K : PySem.W.Frag) (R : Root) (js : List Nat) (g : DG) : TG := fun v σ H Q => ∃ Γ D d, Rep K R σ H Γ D ∧ Dp K D v d ∧ g d Γ fun Γ' => ∀ σ', Rep K R σ' H Γ' D → Off js σ Γ σ' Γ' → Q σ' H
def liftGs (K : PySem.W.Frag) (R : Root) (js : List Nat) (g : DGs) : TGs := fun vs σ H Q => ∃ Γ D ds, Rep K R σ H Γ D ∧ DpAll K D vs ds ∧ g ds Γ fun Γ' => ∀ σ', Rep K R σ' H Γ' D → Off js σ Γ σ' Γ' → Q σ' H
def MonoG {α : Type} (g : α → DEnv → (DEnv → Prop) → Prop) : Prop := ∀ d Γ (Q Q' : DEnv → Prop), (∀ Γ, Q Γ → Q' Γ) → g d Γ Q → g d Γ Q'
structure PDG (X : Cx) (R : Root) (js : List Nat) (tg : Expr) (g : DG) : Prop where
  pg : PG X tg (liftG X.K R js g)
  mono : MonoG g
structure PDGs (X : Cx) (R : Root) (js : List Nat) (tg : List Expr) (g : DGs) : Prop where
  pgs : PGs X tg (liftGs X.K R js g)
  mono : MonoG g
theorem pg_imp {tg : Expr} {t u : TG} (h : PG X tg t) (i : ∀ v σ H Q, u v σ H Q → t v σ H Q) : PG X tg u := ⟨fun pins s σ H v w Q I r q => h.run pins s σ H v w Q I r (i v σ H Q q)⟩
theorem pgs_imp {tg : List Expr} {t u : TGs} (h : PGs X tg t) (i : ∀ v σ H Q, u v σ H Q → t v σ H Q) : PGs X tg u := ⟨fun pins s σ H v w Q I r q => h.run pins s σ H v w Q I r (i v σ H Q q)⟩
theorem mine_set {i : Nat} {v : V} {d : PyData} {a : Addr} (h : Mine (σ.set i (some v)) (Γ.set i (some (Ent.dat d))) a) : Mine σ Γ a := by
  obtain ⟨j, e1, e2⟩ := h
  by_cases n : j = i
  · subst n
    by_cases hl : j < Γ.length
    · rw [List.getElem?_set_self hl] at e2
      rcases e2 with ⟨_, z⟩ | ⟨_, z⟩ <;> cases z
    · rw [List.getElem?_eq_none (by rw [List.length_set]; omega)] at e2
      rcases e2 with ⟨_, z⟩ | ⟨_, z⟩ <;> cases z
  · rw [List.getElem?_set_ne (Ne.symm n)] at e1 e2
    exact ⟨j, e1, e2⟩
def dgName (i : Nat) : DG := fun d Γ Q => dSet i (Ent.dat d) Γ Q
theorem setD_off {i : Nat} {v : V} {d : PyData} {Q : DEnv → Prop} (r : Rep K R σ H Γ D) (hd : Dp K D v d) (h : dSet i (Ent.dat d) Γ Q) : ∃ Γ', Q Γ' ∧ Rep K R (σ.set i (some v)) H Γ' D ∧ Off [i] σ Γ (σ.set i (some v)) Γ' := by
  unfold dSet at h
  split at h
  · exact h.elim
  · rename_i c hc e
    exact ⟨_, h, r.setD e (fun ds z => hc ds z) hd, List.length_set, fun j n => List.getElem?_set_ne (fun z => n (by simp [z])), fun a m => mine_set m⟩
  · exact h.elim
theorem pdg_name (i : Nat) {x : Str} {pos : Pos} (hN : X.N.Nodup) (hi : X.N[i]? = some x := by rfl) (hx : Loc X.env.scope x := by first | exact Or.inl rfl | exact Or.inr rfl) (hf : X.fn x = true ∨ X.env.scope.names.lookup x = some .local := by first | exact .inl rfl | exact .inr rfl | assumption) : PDG X R [i] (.Name x pos) (dgName i) := by
  refine ⟨pg_imp (pg_name hN hi hx hf) fun v σ H Q ⟨Γ, D, d, r, hd, h⟩ => ?_, fun d Γ Q Q' m h => dSet_mono m h⟩
  obtain ⟨Γ2, h2, r2, o⟩ := setD_off r hd h
  exact h2 _ r2 o
def dgNil : DGs := fun ds Γ Q => ds = [] ∧ Q Γ
def dgCons (g : DG) (gs : DGs) : DGs := fun ds Γ Q => match ds with | [] => False | d :: r => g d Γ fun Γ1 => gs r Γ1 Q
theorem pdgs_nil : PDGs X R [] [] dgNil := by
  refine ⟨pgs_imp pgs_nil fun v σ H Q ⟨Γ, D, ds, r, hd, e, h⟩ => ?_, fun d Γ Q Q' m h => ⟨h.1, m _ h.2⟩⟩
  subst e
  cases hd
  exact ⟨rfl, h σ r Off.refl⟩
theorem pdgs_cons {e : Expr} {es : List Expr} {js js' : List Nat} {g : DG} {gs : DGs} (h1 : PDG X R js e g) (h2 : PDGs X R js' es gs) (hs : (assignEach (e :: es) X.env).map (·.2) = assign e X.env :: (assignEach es X.env).map (·.2) := by rfl) : PDGs X R (js ++ js') (e :: es) (dgCons g gs) := by
  refine ⟨pgs_imp (pgs_cons h1.pg h2.pgs hs) fun v σ H Q ⟨Γ, D, ds, r, hd, h⟩ => ?_, fun d Γ Q Q' m h => ?_⟩
  · cases hd with
    | nil => exact h.elim
    | cons a b => exact ⟨_, _, rfl, Γ, D, _, r, a, h1.mono _ Γ _ _ (fun Γ1 q σ' r' o => ⟨Γ1, D, _, r', b, h2.mono _ Γ1 _ _ (fun Γ2 q2 σ2 r2 o2 => q2 σ2 r2 (o.trans o2)) q⟩) h⟩
  · cases d with
    | nil => exact h
    | cons a b => exact h1.mono a Γ _ _ (fun Γ1 q => h2.mono b Γ1 _ _ m q) h
def dgTup (n : Nat) (gs : DGs) : DG := fun d Γ Q => match d with | .tuple ds => ds.length = n ∧ gs ds Γ Q | _ => False
theorem pdg_tup {es : List Expr} {js : List Nat} {k : Nat} {pos : Pos} {gs : DGs} {n : Nat} (hc : X.calm = true) (h : PDGs X R js es gs) (hn : (assignEach es X.env).length = n := by rfl) (hst : (assignEach es X.env).findIdx? (·.1) = none := by rfl) : PDG X R js (.Tuple es k pos) (dgTup n gs) := by
  refine ⟨pg_imp (pg_tup hc h.pgs hn hst) fun v σ H Q ⟨Γ, D, d, r, hd, q⟩ => ?_, fun d Γ Q Q' m q => ?_⟩
  · cases hd with
    | tup s a => exact ⟨_, _, rfl, sqT_mono (fun b o e => r.sub b o e) s, by rw [dpAll_len a]; exact q.1, Γ, D, _, r, a, q.2⟩
    | non => exact q.elim
    | bl _ => exact q.elim
    | int _ => exact q.elim
    | str _ => exact q.elim
    | lst _ _ => exact q.elim
  · cases d <;> first | exact ⟨q.1, h.mono _ Γ _ _ m q.2⟩ | exact q
def dAsgG (a : DE) (g : DG) : DS := fun E Γ => a Γ fun d Γ1 => g d Γ1 E.nx
theorem pds_asg {tg e : Expr} {pos : Pos} {a : DE} {g : DG} {js : List Nat} (he : PDE X R e a) (hg : PDG X R js tg g) (hs : swapsWithSole [tg] e pos.line X.env = pure false := by rfl) (hw : swappedStores [tg] e X.env = pure none := by rfl)
    (h1 : (assignEach [tg] X.env).map (·.2) = [assign tg X.env] := by rfl) : PDS X R (.Assign [tg] e pos) (dAsgG a g) := by
  refine ⟨ps_imp (ps_asg he.pe hg.pg hs hw h1) fun E σ H ⟨Γ, D, r, q⟩ => ?_, fun E E' Γ l h => he.mono Γ _ _ (fun d Γ1 q => hg.mono d Γ1 _ _ l.nx q) h⟩
  refine goE r he.mono q fun d Γ1 v H1 D1 h1 r1 s1 q1 => ?_
  exact ⟨Γ1, D1, d, r1, q1, hg.mono d Γ1 _ _ (fun Γ2 q2 σ' r2 _ => q2 σ' H1 D1 r2 s1.d) h1⟩
end
end DL

set_option Elab.async false
set_option linter.all false
set_option maxRecDepth 100000
namespace DL
open PySem PySem.Spec PyProof.Rows L2


structure ItD (K : PySem.W.Frag) (J : It) (D : Hp) (ds : List PyData) : Prop where
  go : ∀ (i : Nat) (H D1 : Hp), Same D D1 → Sub D1 H → i < ds.length → J.go i H
  stop : ∀ (H D1 : Hp), Same D D1 → Sub D1 H → J.stop ds.length H
  yld : ∀ (i : Nat) (H D1 : Hp) (x : V) (H' : Hp), Same D D1 → Sub D1 H → i < ds.length → J.yld i H x H' → ∃ D2 d, Grow D1 H D2 H' ∧ ds[i]? = some d ∧ Dp K D2 x d
abbrev DI := DEnv → (List PyData → DEnv → Prop) → Prop
def liftI (K : PySem.W.Frag) (R : Root) (di : DI) : TI := fun σ H RR => ∃ Γ D, Rep K R σ H Γ D ∧ di Γ fun ds Γ' => ∀ J H' D', Rep K R σ H' Γ' D' → Step σ Γ D H Γ' D' H' → ItD K J D' ds → RR J H'
structure PDI (X : Cx) (R : Root) (tg iter : Expr) (di : DI) : Prop where
  pi : PI X tg iter (liftI X.K R di)
  mono : MonoK di
section
variable {X : Cx} {R : Root} {K : PySem.W.Frag} {σ : L2.St} {H D : Hp} {Γ : DEnv}
theorem pi_imp {tg iter : Expr} {t u : TI} (h : PI X tg iter t) (i : ∀ σ H Q, u σ H Q → t σ H Q) : PI X tg iter u := ⟨fun pins s σ H Q I q => h.run pins s σ H Q I (i σ H Q q)⟩
theorem goI {di : DI} {Q : It → Hp → Prop} {W : List PyData → DEnv → Prop} (r : Rep K R σ H Γ D) (m : MonoK di) (h : di Γ W)
    (k : ∀ ds Γ' J H' D', W ds Γ' → Rep K R σ H' Γ' D' → Step σ Γ D H Γ' D' H' → ItD K J D' ds → Q J H') : liftI K R di σ H Q :=
  ⟨Γ, D, r, m Γ _ _ (fun ds Γ' w J H' D' r' st q => k ds Γ' J H' D' w r' st q) h⟩
theorem same_sub {D1 : Hp} (s : Same D D1) (u : Sub D1 H) : Sub D H := fun a o h => u a o (s a o h)
theorem itd_list {a : Addr} {xs : List V} {ds : List PyData} (h : SqX K D a xs) (hd : DpAll K D xs ds) : ItD K (Itl K a) D ds := by
  have el := dpAll_len hd
  refine ⟨fun i H D1 s u hi => ?_, fun H D1 s u => ⟨xs, sqL_mono (same_sub s u) h, by omega⟩, fun i H D1 x H' s u hi y => ?_⟩
  · exact ⟨xs, xs[i], sqL_mono (same_sub s u) h, List.getElem?_eq_getElem (by omega)⟩
  · obtain ⟨e, y⟩ := y
    subst e
    obtain ⟨d, e1, e2⟩ := dpAll_getV hd (y xs (sqL_mono (same_sub s u) h))
    exact ⟨D1, d, Grow.refl u, e1, dp_mono s e2⟩
theorem itd_tup {a : Addr} {xs : List V} {ds : List PyData} (h : SqT K D a xs) (hd : DpAll K D xs ds) : ItD K (Itt K a) D ds := by
  have el := dpAll_len hd
  refine ⟨fun i H D1 s u hi => ?_, fun H D1 s u => ⟨xs, sqT_mono (same_sub s u) h, by omega⟩, fun i H D1 x H' s u hi y => ?_⟩
  · exact ⟨xs, xs[i], sqT_mono (same_sub s u) h, List.getElem?_eq_getElem (by omega)⟩
  · obtain ⟨e, y⟩ := y
    subst e
    obtain ⟨d, e1, e2⟩ := dpAll_getV hd (y xs (sqT_mono (same_sub s u) h))
    exact ⟨D1, d, Grow.refl u, e1, dp_mono s e2⟩
def signs (x : Str) : List PyData := x.cps.toList.map fun c => .str ⟨#[c]⟩
theorem itd_str {x : Str} : ItD K (Its x) D (signs x) := by
  have el : (signs x).length = x.cps.size := by simp [signs]
  refine ⟨fun i H D1 s u hi => by show i < x.cps.size; omega, fun H D1 s u => by show x.cps.size ≤ (signs x).length; omega, fun i H D1 v H' s u hi y => ?_⟩
  obtain ⟨e, c, hc, e2⟩ := y
  subst e e2
  refine ⟨D1, .str ⟨#[c]⟩, Grow.refl u, ?_, .str _⟩
  unfold signs
  rw [List.getElem?_map, Array.getElem?_toList, hc]
  rfl
def dSeqOf (a : DE) : DI := fun Γ Q => a Γ fun d Γ1 => match d with | .list ds => Q ds Γ1 | .tuple ds => Q ds Γ1 | .str x => Q (signs x) Γ1 | _ => False
theorem dSeqOf_mono {a : DE} (ma : MonoK a) : MonoK (dSeqOf a) := fun Γ W W' m h => ma Γ _ _ (fun d Γ1 q => by cases d <;> first | exact m _ _ q | exact q) h
theorem pdi_list {tg e : Expr} {a : DE} (h : PDE X R e a) : PDI X R tg e (dSeqOf a) := by
  have hl := pi_list (tg := tg) h.pe
  have ht := pi_tup (tg := tg) h.pe
  have hs := pi_str (tg := tg) h.pe
  refine ⟨⟨fun pins s σ H RR I q => ?_⟩, dSeqOf_mono h.mono⟩
  obtain ⟨Γ, D, r, q⟩ := q
  -- one reading, three walks
  refine thn (h.pe.run pins s σ H (fun v H1 => ∃ J : It → Hp → Prop, J = RR ∧ ((∃ a, v = .ref a ∧ (∃ xs, SqL X.K H1 a xs) ∧ RR (Itl X.K a) H1) ∨ (∃ a, v = .ref a ∧ (∃ xs, SqT X.K H1 a xs) ∧ RR (Itt X.K a) H1) ∨ ∃ x, v = .str x ∧ RR (Its x) H1)) I (goE r h.mono q fun d Γ1 v H1 D1 h1 r1 s1 q1 => ?_)) fun v s1 hv => ?_
  · refine ⟨RR, rfl, ?_⟩
    cases q1 with
    | lst sq al => exact .inl ⟨_, rfl, ⟨_, sqL_mono r1.sub sq⟩, h1 _ _ D1 r1 s1 (itd_list sq al)⟩
    | tup sq al => exact .inr (.inl ⟨_, rfl, ⟨_, sqT_mono r1.sub sq⟩, h1 _ _ D1 r1 s1 (itd_tup sq al)⟩)
    | str x => exact .inr (.inr ⟨x, rfl, h1 _ _ D1 r1 s1 itd_str⟩)
    | non => exact h1.elim
    | bl _ => exact h1.elim
    | int _ => exact h1.elim
  · obtain ⟨x, H1, I1, r1, J, rfl, q1⟩ := hv
    have done : ∀ (y : V), RelV y v → PE X e (fun σ' H' Q' => Q' y H1 ∧ False) → True := fun _ _ _ => trivial
    rcases q1 with ⟨a, e1, ⟨xs, hq⟩, q2⟩ | ⟨a, e1, ⟨xs, hq⟩, q2⟩ | ⟨x', e1, q2⟩
    · subst e1
      cases r1
      obtain ⟨its, rv, p, hz⟩ := I1.list hq -- k01
      refine wpAny_pyIter_list p.isList ?_ -- k01
      refine ⟨s1.heap.objs.size, [s1.heap.objs.size], _, _, H1, rfl, I1.kept (t' := s1.toks) fun b o e => Heap.get?_push_of_some _ e, turn_list a _, ⟨_, Heap.get?_push_size _ rfl, rfl, rfl⟩, fun b hb => ?_, q2⟩
      obtain rfl : b = s1.heap.objs.size := by simpa using hb
      exact I1.fpOk (Nat.le_refl _) (I1.hok.fresh (Nat.le_refl _)) -- k01
    · subst e1
      cases r1
      obtain ⟨its, rv, p, hz⟩ := I1.tuple hq -- k01
      refine wpAny_pyIter_tuple (show s1.heap.IsTuple a its.toArray from p) ?_ -- k01
      refine ⟨s1.heap.objs.size, [s1.heap.objs.size], _, _, H1, rfl, I1.kept (t' := s1.toks) fun b o e => Heap.get?_push_of_some _ e, turn_tuple a _, ⟨_, Heap.get?_push_size _ rfl, rfl, rfl⟩, fun b hb => ?_, q2⟩
      obtain rfl : b = s1.heap.objs.size := by simpa using hb
      exact I1.fpOk (Nat.le_refl _) (I1.hok.fresh (Nat.le_refl _)) -- k01
    · subst e1
      obtain ⟨t, rfl⟩ := r1
      cases ha : x'.cps.all (· < 128)
      · exact wpAny_pyIter_wide ha (pi_one (tk := s1.toks) I1 _ (turn_str _ x' t "str_iterator" (.inr rfl)) ⟨_, Heap.get?_push_size _ rfl, rfl, rfl⟩ q2)
      · exact wpAny_pyIter_ascii ha (pi_one (tk := s1.toks) I1 _ (turn_str _ x' t "str_ascii_iterator" (.inl rfl)) ⟨_, Heap.get?_push_size _ rfl, rfl, rfl⟩ q2)
def upto (lo : Int) (n : Nat) : List PyData := (List.range n).map fun i => .int (lo + (i : Nat))
theorem upto_len (lo : Int) (n : Nat) : (upto lo n).length = n := by simp [upto]
theorem upto_get {lo : Int} {n i : Nat} (h : i < n) : (upto lo n)[i]? = some (.int (lo + (i : Nat))) := by
  unfold upto
  rw [List.getElem?_map, List.getElem?_range h]
  rfl
theorem itd_rng {lo : Int} {n : Nat} : ItD K (Itr lo n) D (upto lo n) := by
  refine ⟨fun i H D1 s u hi => by rw [upto_len] at hi; exact hi, fun H D1 s u => by rw [upto_len]; exact Nat.le_refl _, fun i H D1 x H' s u hi y => ?_⟩
  obtain ⟨e, e2⟩ := y
  subst e e2
  rw [upto_len] at hi
  exact ⟨D1, _, Grow.refl u, upto_get hi, .int _⟩
def dRange1 (a : DA) : DI := fun Γ Q => a Γ fun ds Γ1 => match ds with | [.int j] => -(2 ^ 62) ≤ j ∧ j < 2 ^ 62 ∧ Q (upto 0 j.toNat) Γ1 | _ => False
theorem dRange1_mono {a : DA} (ma : MonoK a) : MonoK (dRange1 a) := fun Γ W W' m h => ma Γ _ _ (fun ds Γ1 q => by
  split at q
  · exact ⟨q.1, q.2.1, m _ _ q.2.2⟩
  · exact q) h
theorem pdi_range1 {tg e : Expr} {p pos : Pos} {a : DA} (hg : Gl X "range") (hm : X.mg "range" = none) (ha : PDA X R [e] a) (hs : starEach [e] X.env = [(false, eval e X.env)] := by rfl) : PDI X R tg (.Call (.Name "range" p) [e] [] pos) (dRange1 a) := by
  refine ⟨pi_imp (pi_range1 hg hm ha.pa hs) fun σ H RR ⟨Γ, D, r, q⟩ => ?_, dRange1_mono ha.mono⟩
  refine goA r ha.mono q fun ds Γ1 vs H1 D1 h1 r1 s1 q1 => ?_
  split at h1
  · rename_i j
    cases q1 with
    | cons x y =>
      cases x
      cases y
      exact ⟨j, rfl, h1.1, h1.2.1, h1.2.2 _ H1 D1 r1 s1 itd_rng⟩
  · exact h1.elim
def dRange2 (a : DA) : DI := fun Γ Q => a Γ fun ds Γ1 => match ds with | [.int i, .int j] => (-(2 ^ 62) ≤ i ∧ i < 2 ^ 62 ∧ -(2 ^ 62) ≤ j ∧ j < 2 ^ 62) ∧ Q (upto i (j - i).toNat) Γ1 | _ => False
theorem dRange2_mono {a : DA} (ma : MonoK a) : MonoK (dRange2 a) := fun Γ W W' m h => ma Γ _ _ (fun ds Γ1 q => by
  split at q
  · exact ⟨q.1, m _ _ q.2⟩
  · exact q) h
theorem pdi_range2 {tg e e2 : Expr} {p pos : Pos} {a : DA} (hg : Gl X "range") (hm : X.mg "range" = none) (ha : PDA X R [e, e2] a) (hs : starEach [e, e2] X.env = [(false, eval e X.env), (false, eval e2 X.env)] := by rfl) (hs2 : starEach [e2] X.env = [(false, eval e2 X.env)] := by rfl) :
    PDI X R tg (.Call (.Name "range" p) [e, e2] [] pos) (dRange2 a) := by
  refine ⟨pi_imp (pi_range2 hg hm ha.pa hs hs2) fun σ H RR ⟨Γ, D, r, q⟩ => ?_, dRange2_mono ha.mono⟩
  refine goA r ha.mono q fun ds Γ1 vs H1 D1 h1 r1 s1 q1 => ?_
  split at h1
  · rename_i i j
    cases q1 with
    | cons x y =>
      cases x
      cases y with
      | cons x y =>
        cases x
        cases y
        exact ⟨i, j, rfl, h1.1, h1.2 _ H1 D1 r1 s1 itd_rng⟩
  · exact h1.elim
def enums (ds : List PyData) : List PyData := (List.range ds.length).map fun i => .tuple [.int (i : Nat), ds.getD i .none]
theorem enums_len (ds : List PyData) : (enums ds).length = ds.length := by simp [enums]
theorem upd_pair {p : Addr} {x y : V} {d e : PyData} (u : Sub D H) (hp : H p = none) (h1 : Dp K D x d) (h2 : Dp K D y e) : Grow D H (upd D p (.tup [x, y])) (upd H p (.tup [x, y])) ∧ Dp K (upd D p (.tup [x, y])) (.ref p) (.tuple [d, e]) := by
  have g := Grow.upd (o := .tup [x, y]) u hp
  exact ⟨g, .tup (SqT.of upd_same) (.cons (dp_mono g.d h1) (.cons (dp_mono g.d h2) .nil))⟩
theorem itd_enum {a : Addr} {xs : List V} {ds : List PyData} (h : SqX K D a xs) (hd : DpAll K D xs ds) : ItD K (Ite K a) D (enums ds) := by
  have el := dpAll_len hd
  refine ⟨fun i H D1 s u hi => ?_, fun H D1 s u => ⟨xs, sqL_mono (same_sub s u) h, by rw [enums_len]; omega⟩, fun i H D1 x H' s u hi y => ?_⟩
  · rw [enums_len] at hi
    exact ⟨xs, xs[i], sqL_mono (same_sub s u) h, List.getElem?_eq_getElem (by omega)⟩
  · rw [enums_len] at hi
    obtain ⟨T, z, e1, e2, e3, y⟩ := y
    subst e1 e3
    obtain ⟨d, f1, f2⟩ := dpAll_getV hd (y xs (sqL_mono (same_sub s u) h))
    obtain ⟨g, q⟩ := upd_pair (K := K) u e2 (.int (i : Nat)) (dp_mono s f2)
    refine ⟨_, _, g, ?_, q⟩
    unfold enums
    rw [List.getElem?_map, List.getElem?_range hi]
    show some (PyData.tuple [.int (i : Nat), ds.getD i .none]) = _
    rw [List.getD_eq_getElem?_getD, f1]
    rfl
def dEnum (a : DA) : DI := fun Γ Q => a Γ fun ds Γ1 => match ds with | [.list es] => Q (enums es) Γ1 | _ => False
theorem dEnum_mono {a : DA} (ma : MonoK a) : MonoK (dEnum a) := fun Γ W W' m h => ma Γ _ _ (fun ds Γ1 q => by
  split at q
  · exact m _ _ q
  · exact q) h
theorem pdi_enum {e : Expr} {p pos tpos : Pos} {elts : List Expr} {kk : Nat} {a : DA} (hg : Gl X "enumerate") (hm : X.mg "enumerate" = none) (ha : PDA X R [e] a) (hs : starEach [e] X.env = [(false, eval e X.env)] := by rfl) : PDI X R (.Tuple elts kk tpos) (.Call (.Name "enumerate" p) [e] [] pos) (dEnum a) := by
  refine ⟨pi_imp (pi_enum hg hm ha.pa hs) fun σ H RR ⟨Γ, D, r, q⟩ => ?_, dEnum_mono ha.mono⟩
  refine goA r ha.mono q fun ds Γ1 vs H1 D1 h1 r1 s1 q1 => ?_
  split at h1
  · cases q1 with
    | cons x y =>
      cases y
      cases x with
      | lst sq al => exact ⟨_, _, rfl, sqL_mono r1.sub sq, h1 _ H1 D1 r1 s1 (itd_enum sq al)⟩
  · exact h1.elim
def zips (ds es : List PyData) : List PyData := List.zipWith (fun d e => .tuple [d, e]) ds es
theorem zips_get {ds es : List PyData} {i : Nat} {d e : PyData} (h1 : ds[i]? = some d) (h2 : es[i]? = some e) : (zips ds es)[i]? = some (.tuple [d, e]) := by
  unfold zips
  rw [List.getElem?_zipWith, h1, h2]
theorem zips_len (ds es : List PyData) : (zips ds es).length = min ds.length es.length := by simp [zips]
theorem itd_zipT {a b : Addr} {xs ys : List V} {ds es : List PyData} (h : SqT K D a xs) (hd : DpAll K D xs ds) (h' : SqT K D b ys) (he : DpAll K D ys es) : ItD K (RZ.ItzT K a b) D (zips ds es) := by
  have el := dpAll_len hd
  have el' := dpAll_len he
  refine ⟨fun i H D1 s u hi => ?_, fun H D1 s u => ⟨xs, ys, sqT_mono (same_sub s u) h, sqT_mono (same_sub s u) h', by rw [zips_len]; omega⟩, fun i H D1 x H' s u hi y => ?_⟩
  · rw [zips_len] at hi
    exact ⟨xs, ys, xs[i], ys[i], sqT_mono (same_sub s u) h, sqT_mono (same_sub s u) h', List.getElem?_eq_getElem (by omega), List.getElem?_eq_getElem (by omega)⟩
  · obtain ⟨T, z, z', e1, e2, e3, y1, y2⟩ := y
    subst e1 e3
    obtain ⟨d, f1, f2⟩ := dpAll_getV hd (y1 xs (sqT_mono (same_sub s u) h))
    obtain ⟨d', f1', f2'⟩ := dpAll_getV he (y2 ys (sqT_mono (same_sub s u) h'))
    obtain ⟨g, q⟩ := upd_pair (K := K) u e2 (dp_mono s f2) (dp_mono s f2')
    exact ⟨_, _, g, zips_get f1 f1', q⟩
theorem itd_zipL {a b : Addr} {xs ys : List V} {ds es : List PyData} (h : SqX K D a xs) (hd : DpAll K D xs ds) (h' : SqX K D b ys) (he : DpAll K D ys es) : ItD K (Itz K a b) D (zips ds es) := by
  have el := dpAll_len hd
  have el' := dpAll_len he
  refine ⟨fun i H D1 s u hi => ?_, fun H D1 s u => ⟨xs, ys, sqL_mono (same_sub s u) h, sqL_mono (same_sub s u) h', by rw [zips_len]; omega⟩, fun i H D1 x H' s u hi y => ?_⟩
  · rw [zips_len] at hi
    exact ⟨xs, ys, xs[i], ys[i], sqL_mono (same_sub s u) h, sqL_mono (same_sub s u) h', List.getElem?_eq_getElem (by omega), List.getElem?_eq_getElem (by omega)⟩
  · obtain ⟨T, z, z', e1, e2, e3, y1, y2⟩ := y
    subst e1 e3
    obtain ⟨d, f1, f2⟩ := dpAll_getV hd (y1 xs (sqL_mono (same_sub s u) h))
    obtain ⟨d', f1', f2'⟩ := dpAll_getV he (y2 ys (sqL_mono (same_sub s u) h'))
    obtain ⟨g, q⟩ := upd_pair (K := K) u e2 (dp_mono s f2) (dp_mono s f2')
    exact ⟨_, _, g, zips_get f1 f1', q⟩
def dZip (a : DA) : DI := fun Γ Q => a Γ fun ds Γ1 => match ds with | [.list xs, .list ys] => Q (zips xs ys) Γ1 | [.tuple xs, .tuple ys] => Q (zips xs ys) Γ1 | _ => False
theorem dZip_mono {a : DA} (ma : MonoK a) : MonoK (dZip a) := fun Γ W W' m h => ma Γ _ _ (fun ds Γ1 q => by
  split at q
  · exact m _ _ q
  · exact m _ _ q
  · exact q) h
theorem pdi_zip {e e2 : Expr} {p pos tpos : Pos} {elts : List Expr} {kk : Nat} {a : DA} (hg : Gl X "zip") (hm : X.mg "zip" = none) (ha : PDA X R [e, e2] a) (hs : starEach [e, e2] X.env = (false, eval e X.env) :: starEach [e2] X.env := by rfl) (hpl : (backTo pos (starEach [e2] X.env)).any (·.1) = false := by rfl) :
    PDI X R (.Tuple elts kk tpos) (.Call (.Name "zip" p) [e, e2] [] pos) (dZip a) := by
  refine ⟨pi_imp (RZ.pi_zipA hg hm ha.pa hs hpl) fun σ H RR ⟨Γ, D, r, q⟩ => ?_, dZip_mono ha.mono⟩
  refine goA r ha.mono q fun ds Γ1 vs H1 D1 h1 r1 s1 q1 => ?_
  split at h1
  · cases q1 with
    | cons x y =>
      cases y with
      | cons x' y =>
        cases y
        cases x with
        | lst sq al =>
          cases x' with
          | lst sq' al' => exact ⟨_, _, _, _, rfl, .inl ⟨sqL_mono r1.sub sq, sqL_mono r1.sub sq', h1 _ H1 D1 r1 s1 (itd_zipL sq al sq' al')⟩⟩
  · cases q1 with
    | cons x y =>
      cases y with
      | cons x' y =>
        cases y
        cases x with
        | tup sq al =>
          cases x' with
          | tup sq' al' => exact ⟨_, _, _, _, rfl, .inr ⟨sqT_mono r1.sub sq, sqT_mono r1.sub sq', h1 _ H1 D1 r1 s1 (itd_zipT sq al sq' al')⟩⟩
  · exact h1.elim


def dFor (di : DI) (g : DG) (b : DS) : DS := fun E Γ => di Γ fun ds Γ1 => ∃ Pv : Nat → DEnv → Prop, Pv 0 Γ1 ∧ (∀ i d Γ', ds[i]? = some d → Pv i Γ' → g d Γ' fun Γ2 => b { E with nx := Pv (i + 1), ct := Pv (i + 1), bk := E.nx } Γ2) ∧ ∀ Γ', Pv ds.length Γ' → E.nx Γ'
theorem dFor_mono {di : DI} {g : DG} {b : DS} (mi : MonoK di) (mg : MonoG g) (mb : MonoS b) : MonoS (dFor di g b) := fun E E' Γ l h => mi Γ _ _ (fun ds Γ1 q => by
  obtain ⟨Pv, p0, ps, pd⟩ := q
  exact ⟨Pv, p0, fun i d Γ' e p => mg d Γ' _ _ (fun Γ2 q => mb { E with nx := Pv (i + 1), ct := Pv (i + 1), bk := E.nx } { E' with nx := Pv (i + 1), ct := Pv (i + 1), bk := E'.nx } Γ2 ⟨fun _ q => q, l.rt, fun _ q => l.nx _ q, fun _ q => q⟩ q) (ps i d Γ' e p), fun Γ' p => l.nx _ (pd Γ' p)⟩) h
theorem pds_for {tg iter : Expr} {body : List Stmt} {di : DI} {g : DG} {js : List Nat} {b : DS} {pos : Pos} (hp : PassesOwn (model X.prog X.w) X.A X.env X.xe) (hc : X.calm = true) (hi : PDI X R tg iter di) (hg : PDG X R js tg g) (hb : PDSs X R body b)
    (hs : ∀ x, foldedSetIterable iter X.env x = pure x := by intro _; rfl) : PDS X R (.For tg iter body [] pos) (dFor di g b) := by
  refine ⟨ps_imp (ps_for hp hc hi.pi hg.pg hb.pss hs) fun E σ H ⟨Γ, D, r, q⟩ => ?_, dFor_mono hi.mono hg.mono hb.mono⟩
  refine goI r hi.mono q fun ds Γ1 J H1 D1 h1 r1 s1 it => ?_
  obtain ⟨Pv, p0, ps, pd⟩ := h1
  refine ⟨fun i m σ' H' => m = ds.length - i ∧ i ≤ ds.length ∧ ∃ Γ' D', Rep X.K R σ' H' Γ' D' ∧ Same D1 D' ∧ Pv i Γ', ⟨ds.length, by simp, Nat.zero_le _, Γ1, D1, r1, Same.refl _, p0⟩, ?_⟩
  rintro i m σ' H' ⟨rfl, hi', Γ', D', r', sm, p⟩
  by_cases hlt : i < ds.length
  · refine .inr ⟨it.go i H' D' sm r'.sub hlt, fun σ2 H2 => ∃ Γ2 D2, Rep X.K R σ2 H2 Γ2 D2 ∧ Same D1 D2 ∧ Pv (i + 1) Γ2, fun σ2 H2 ⟨Γ2, D2, r2, sm2, p2⟩ => ⟨ds.length - (i + 1), by omega, rfl, hlt, Γ2, D2, r2, sm2, p2⟩, fun x H2 y => ?_⟩
    obtain ⟨D2, d, g2, ed, dp⟩ := it.yld i H' D' x H2 sm r'.sub hlt y
    have r2 := r'.grow g2
    refine ⟨Γ', D2, d, r2, dp, hg.mono d Γ' _ _ (fun Γ3 q3 σ3 r3 _ => ⟨Γ3, D2, r3, hb.mono { endsOf X.K R E D with nx := Pv (i + 1), ct := Pv (i + 1), bk := (endsOf X.K R E D).nx } _ Γ3 ⟨fun Γ4 p4 σ4 H4 D4 r4 sm4 => ⟨Γ4, D4, r4, (sm.trans g2.d).trans sm4, p4⟩, fun d4 Γ4 q4 v4 σ4 H4 D4 r4 sm4 dp4 => q4 v4 σ4 H4 D4 r4 (s1.d.trans ((sm.trans g2.d).trans sm4)) dp4,
      fun Γ4 q4 σ4 H4 D4 r4 sm4 => q4 σ4 H4 D4 r4 (s1.d.trans ((sm.trans g2.d).trans sm4)), fun Γ4 p4 σ4 H4 D4 r4 sm4 => ⟨Γ4, D4, r4, (sm.trans g2.d).trans sm4, p4⟩⟩ q3⟩) (ps i d Γ' ed p)⟩
  · have e : i = ds.length := by omega
    subst e
    exact .inl ⟨it.stop H' D' sm r'.sub, pd Γ' p σ' H' D' r' (s1.d.trans sm)⟩
def dWhile (t : DT) (b : DS) : DS := fun E Γ => ∃ W : Nat → DEnv → Prop, (∃ m, W m Γ) ∧ ∀ m Γ', W m Γ' → t Γ' fun c Γ1 => if c = true then b { E with nx := fun Γ2 => ∃ m', m' < m ∧ W m' Γ2, ct := fun Γ2 => ∃ m', m' < m ∧ W m' Γ2, bk := E.nx } Γ1 else E.nx Γ1
theorem dWhile_mono {t : DT} {b : DS} (mt : MonoK t) (mb : MonoS b) : MonoS (dWhile t b) := fun E E' Γ l h => by
  obtain ⟨W, w0, ws⟩ := h
  refine ⟨W, w0, fun m Γ' w => mt Γ' _ _ (fun c Γ1 q => ?_) (ws m Γ' w)⟩
  cases c with
  | true => exact mb { E with nx := fun Γ2 => ∃ m', m' < m ∧ W m' Γ2, ct := fun Γ2 => ∃ m', m' < m ∧ W m' Γ2, bk := E.nx } _ Γ1 ⟨fun _ q => q, l.rt, fun _ q => l.nx _ q, fun _ q => q⟩ q
  | false => exact l.nx _ q
theorem pds_while {c : Expr} {body : List Stmt} {pos : Pos} {t : DT} {b : DS} (hp : PassesOwn (model X.prog X.w) X.A X.env X.xe) (hc : PDT X R c t) (hb : PDSs X R body b) : PDS X R (.While c body [] pos) (dWhile t b) := by
  refine ⟨ps_imp (ps_while hp hc.pt hb.pss) fun E σ H ⟨Γ, D, r, q⟩ => ?_, dWhile_mono hc.mono hb.mono⟩
  obtain ⟨W, ⟨m0, w0⟩, ws⟩ := q
  refine ⟨fun m σ' H' => ∃ Γ' D', Rep X.K R σ' H' Γ' D' ∧ Same D D' ∧ W m Γ', ⟨m0, Γ, D, r, Same.refl _, w0⟩, ?_⟩
  rintro m σ' H' ⟨Γ', D', r', sm, w⟩
  refine goT r' hc.mono (ws m Γ' w) fun c' Γ1 H1 D1 h1 r1 s1 => ?_
  cases c' with
  | true =>
    refine ⟨fun σ2 H2 => ∃ m', m' < m ∧ ∃ Γ2 D2, Rep X.K R σ2 H2 Γ2 D2 ∧ Same D D2 ∧ W m' Γ2, fun σ2 H2 h => h, ?_⟩
    exact ⟨Γ1, D1, r1, hb.mono { endsOf X.K R E D with nx := fun Γ2 => ∃ m', m' < m ∧ W m' Γ2, ct := fun Γ2 => ∃ m', m' < m ∧ W m' Γ2, bk := (endsOf X.K R E D).nx } _ Γ1 ⟨fun Γ2 ⟨m', l, w2⟩ σ2 H2 D2 r2 sm2 => ⟨m', l, Γ2, D2, r2, (sm.trans s1.d).trans sm2, w2⟩, fun d2 Γ2 q2 v2 σ2 H2 D2 r2 sm2 dp2 => q2 v2 σ2 H2 D2 r2 ((sm.trans s1.d).trans sm2) dp2,
      fun Γ2 q2 σ2 H2 D2 r2 sm2 => q2 σ2 H2 D2 r2 ((sm.trans s1.d).trans sm2), fun Γ2 ⟨m', l, w2⟩ σ2 H2 D2 r2 sm2 => ⟨m', l, Γ2, D2, r2, (sm.trans s1.d).trans sm2, w2⟩⟩ h1⟩
  | false => exact h1 σ' H1 D1 r1 (sm.trans s1.d)
end
end DL

set_option Elab.async false
set_option linter.all false
set_option maxRecDepth 100000
set_option maxHeartbeats 1000000
namespace DL
open PySem PySem.Spec PyProof.Rows L2


def wipeD (Γ : DEnv) : List Nat → DEnv
  | [] => Γ
  | v :: vs => (wipeD Γ vs).set v none
def backD (Γ Γ0 : DEnv) : List Nat → DEnv
  | [] => Γ
  | v :: vs => (backD Γ Γ0 vs).set v ((Γ0[v]?).getD none)
def okW (Γ : DEnv) (vs : List Nat) : Prop := ∀ v ∈ vs, ∃ c, Γ[v]? = some c ∧ ∀ ds, c ≠ some (Ent.own ds) ∧ c ≠ some (Ent.arg ds)
theorem wipeD_len (Γ : DEnv) : ∀ vs : List Nat, (wipeD Γ vs).length = Γ.length
  | [] => rfl
  | v :: vs => by unfold wipeD; rw [List.length_set, wipeD_len Γ vs]
theorem backD_len (Γ Γ0 : DEnv) : ∀ vs : List Nat, (backD Γ Γ0 vs).length = Γ.length
  | [] => rfl
  | v :: vs => by unfold backD; rw [List.length_set, backD_len Γ Γ0 vs]
theorem wipeD_out {Γ : DEnv} {i : Nat} : ∀ {vs : List Nat}, i ∉ vs → (wipeD Γ vs)[i]? = Γ[i]?
  | [], _ => rfl
  | v :: vs, h => by
    unfold wipeD
    rw [List.getElem?_set_ne (fun z => h (by simp [z])), wipeD_out fun z => h (List.mem_cons_of_mem _ z)]
theorem wipeD_in {Γ : DEnv} {i : Nat} {e : Ent} : ∀ {vs : List Nat}, (wipeD Γ vs)[i]? = some (some e) → i ∉ vs ∧ Γ[i]? = some (some e)
  | [], h => ⟨by simp, h⟩
  | v :: vs, h => by
    unfold wipeD at h
    by_cases n : i = v
    · subst n
      by_cases hl : i < (wipeD Γ vs).length
      · rw [List.getElem?_set_self hl] at h; cases h
      · rw [List.getElem?_eq_none (by rw [List.length_set]; omega)] at h; cases h
    · rw [List.getElem?_set_ne (Ne.symm n)] at h
      obtain ⟨h1, h2⟩ := wipeD_in h
      exact ⟨by simp only [List.mem_cons, not_or]; exact ⟨n, h1⟩, h2⟩
theorem backD_out {Γ Γ0 : DEnv} {i : Nat} : ∀ {vs : List Nat}, i ∉ vs → (backD Γ Γ0 vs)[i]? = Γ[i]?
  | [], _ => rfl
  | v :: vs, h => by
    unfold backD
    rw [List.getElem?_set_ne (fun z => h (by simp [z])), backD_out fun z => h (List.mem_cons_of_mem _ z)]
theorem backD_in {Γ Γ0 : DEnv} {i : Nat} (hl : Γ.length = Γ0.length) : ∀ {vs : List Nat}, i ∈ vs → (backD Γ Γ0 vs)[i]? = Γ0[i]?
  | [], h => by simp at h
  | v :: vs, h => by
    unfold backD
    by_cases n : i = v
    · subst n
      by_cases hi : i < Γ0.length
      · rw [List.getElem?_set_self (by rw [backD_len, hl]; exact hi)]
        rw [List.getElem?_eq_getElem hi]
        rfl
      · rw [List.getElem?_eq_none (by rw [List.length_set, backD_len]; omega), List.getElem?_eq_none (by omega)]
    · rw [List.getElem?_set_ne (Ne.symm n)]
      exact backD_in hl (by rcases List.mem_cons.mp h with z | z; exact absurd z n; exact z)
theorem wipe_in {σ : L2.St} {i : Nat} : ∀ {vs : List Nat}, i ∈ vs → i < σ.length → (wipe σ vs)[i]? = some none
  | [], h, _ => by simp at h
  | v :: vs, h, hl => by
    unfold wipe
    by_cases n : i = v
    · subst n
      rw [List.getElem?_set_self (by rw [wipe_length]; exact hl)]
    · rw [List.getElem?_set_ne (Ne.symm n)]
      exact wipe_in (by rcases List.mem_cons.mp h with z | z; exact absurd z n; exact z) hl
section
variable {X : Cx} {R : Root} {K : PySem.W.Frag} {σ : L2.St} {H D : Hp} {Γ : DEnv}
theorem wipe_same {js vs : List Nat} {σ' : L2.St} {Γ' : DEnv} (o : Off js (wipe σ vs) Γ σ' Γ') (h : ∀ j ∈ js, j ∈ vs) : wipe σ' vs = wipe σ vs := by
  apply List.ext_getElem?
  intro i
  by_cases hi : i ∈ vs
  · by_cases hl : i < σ.length
    · rw [wipe_in hi hl, wipe_in hi (by rw [o.len, wipe_length]; exact hl)]
    · rw [List.getElem?_eq_none (by rw [wipe_length, o.len, wipe_length]; omega), List.getElem?_eq_none (by rw [wipe_length]; omega)]
  · rw [L2.wipe_out hi, o.slots i fun z => hi (h i z)]
theorem Rep.wiped {vs : List Nat} (r : Rep K R σ H Γ D) (ok : okW Γ vs) : Rep K R (wipe σ vs) H (wipeD Γ vs) D := by
  have out : ∀ {i : Nat}, i ∉ vs → (wipe σ vs)[i]? = σ[i]? := fun h => L2.wipe_out h
  refine ⟨r.sub, r.ext, r.new, r.kept, by rw [wipe_length, wipeD_len]; exact r.len, fun i d e => ?_, fun i d e => ?_, fun i d e => ?_, fun b e => ?_, fun i j ds es a e1 e2 e3 e4 => ?_, r.args⟩
  · obtain ⟨n, e⟩ := wipeD_in e
    rw [out n]; exact r.dat i d e
  · obtain ⟨n, e⟩ := wipeD_in e
    rw [out n]; exact r.own i d e
  · obtain ⟨n, e⟩ := wipeD_in e
    rw [out n]; exact r.arg i d e
  · obtain ⟨ds, e1, e2⟩ := r.a0 b e
    have n : 0 ∉ vs := fun z => by
      obtain ⟨c, q1, q2⟩ := ok 0 z
      rw [e1] at q1
      exact (q2 ds).2 (Option.some.inj q1).symm
    exact ⟨ds, by rw [wipeD_out n]; exact e1, fun i ds' q => e2 i ds' (wipeD_in q).2⟩
  · obtain ⟨n1, e1⟩ := wipeD_in e1
    obtain ⟨n2, e2⟩ := wipeD_in e2
    rw [out n1] at e3
    rw [out n2] at e4
    exact r.apart i j ds es a e1 e2 e3 e4
theorem mine_wiped {vs : List Nat} {a : Addr} (h : Mine (wipe σ vs) (wipeD Γ vs) a) : Mine σ Γ a := by
  obtain ⟨i, e1, e2⟩ := h
  have n : i ∉ vs := by
    rcases e2 with ⟨ds, e2⟩ | ⟨ds, e2⟩ <;> exact (wipeD_in e2).1
  rw [L2.wipe_out n] at e1
  refine ⟨i, e1, ?_⟩
  rcases e2 with ⟨ds, e2⟩ | ⟨ds, e2⟩
  · exact .inl ⟨ds, (wipeD_in e2).2⟩
  · exact .inr ⟨ds, (wipeD_in e2).2⟩
theorem Rep.back {vs : List Nat} {σ2 : L2.St} {Γ' : DEnv} {H' D' : Hp} (r' : Rep K R σ H' Γ' D') (ok : okW Γ' vs) (r : Rep K R σ2 H Γ D) (so : ∀ i, i ∉ vs → σ2[i]? = σ[i]?) (hl : σ2.length = σ.length) (sm : Same D' D) :
    Rep K R σ H (backD Γ Γ' vs) D := by
  have ll : Γ.length = Γ'.length := by rw [← r.len, ← r'.len, hl]
  have cls : ∀ (i : Nat) (e : Ent), (backD Γ Γ' vs)[i]? = some (some e) → (i ∉ vs ∧ Γ[i]? = some (some e)) ∨ (i ∈ vs ∧ Γ'[i]? = some (some e)) := fun i e q => by
    by_cases n : i ∈ vs
    · rw [backD_in ll n] at q; exact .inr ⟨n, q⟩
    · rw [backD_out n] at q; exact .inl ⟨n, q⟩
  have own : ∀ (i : Nat) ds, (backD Γ Γ' vs)[i]? = some (some (Ent.own ds)) → i ∉ vs ∧ Γ[i]? = some (some (Ent.own ds)) := fun i ds q => by
    rcases cls i _ q with z | ⟨z1, z2⟩
    · exact z
    · obtain ⟨c, q1, q2⟩ := ok i z1
      rw [z2] at q1
      exact ((q2 ds).1 (Option.some.inj q1).symm).elim
  have arg : ∀ (i : Nat) ds, (backD Γ Γ' vs)[i]? = some (some (Ent.arg ds)) → i ∉ vs ∧ Γ[i]? = some (some (Ent.arg ds)) := fun i ds q => by
    rcases cls i _ q with z | ⟨z1, z2⟩
    · exact z
    · obtain ⟨c, q1, q2⟩ := ok i z1
      rw [z2] at q1
      exact ((q2 ds).2 (Option.some.inj q1).symm).elim
  refine ⟨r.sub, r.ext, r.new, r.kept, by rw [backD_len, ← r.len, hl], fun i d e => ?_, fun i d e => ?_, fun i d e => ?_, fun b e => ?_, fun i j ds es a e1 e2 e3 e4 => ?_, r.args⟩
  · rcases cls i _ e with ⟨n, e⟩ | ⟨_, e⟩
    · rw [← so i n]; exact r.dat i d e
    · obtain ⟨v, q1, q2⟩ := r'.dat i d e
      exact ⟨v, q1, dp_mono sm q2⟩
  · obtain ⟨n, e⟩ := own i d e
    rw [← so i n]; exact r.own i d e
  · obtain ⟨n, e⟩ := arg i d e
    rw [← so i n]; exact r.arg i d e
  · obtain ⟨ds, e1, e2⟩ := r.a0 b e
    obtain ⟨ds', e1', e2'⟩ := r'.a0 b e
    have n : 0 ∉ vs := fun z => by
      obtain ⟨c, q1, q2⟩ := ok 0 z
      rw [e1'] at q1
      exact (q2 ds').2 (Option.some.inj q1).symm
    exact ⟨ds, by rw [backD_out n]; exact e1, fun i es q => e2 i es (arg i es q).2⟩
  · obtain ⟨n1, e1⟩ := own i ds e1
    obtain ⟨n2, e2⟩ := own j es e2
    rw [← so i n1] at e3
    rw [← so j n2] at e4
    exact r.apart i j ds es a e1 e2 e3 e4
theorem mine_back {vs : List Nat} {σ2 : L2.St} {Γ' : DEnv} {a : Addr} (ok : okW Γ' vs) (ll : Γ.length = Γ'.length) (so : ∀ i, i ∉ vs → σ2[i]? = σ[i]?) (h : Mine σ (backD Γ Γ' vs) a) : Mine σ2 Γ a := by
  obtain ⟨i, e1, e2⟩ := h
  have n : i ∉ vs := fun z => by
    obtain ⟨c, q1, q2⟩ := ok i z
    rw [backD_in ll z, q1] at e2
    rcases e2 with ⟨ds, e2⟩ | ⟨ds, e2⟩
    · exact (q2 ds).1 (Option.some.inj e2)
    · exact (q2 ds).2 (Option.some.inj e2)
  rw [backD_out n] at e2
  exact ⟨i, by rw [so i n]; exact e1, e2⟩
theorem Rep.tmpL {L : Addr} {o : HO} (r : Rep K R σ H Γ D) (h0 : R.H0 L = none) (hD : D L = none) (hm : ¬ Mine σ Γ L) : Rep K R σ (upd H L o) Γ D := by
  refine ⟨fun b u e => by rw [upd_ne (ne_of_none e hD)]; exact r.sub b u e, r.ext, r.new, fun b u e n => by rw [upd_ne (ne_of_none e h0)]; exact r.kept b u e n, r.len, r.dat, fun i ds e => ?_, fun i ds e => ?_, r.a0, r.apart, r.args⟩
  · obtain ⟨a, xs, e1, e2, e3⟩ := r.own i ds e
    have n : a ≠ L := fun z => hm ⟨i, by rw [← z]; exact e1, .inl ⟨ds, e⟩⟩
    exact ⟨a, xs, e1, by rw [upd_ne n]; exact e2, e3⟩
  · obtain ⟨a, xs, e0, e1, e2, e3⟩ := r.arg i ds e
    have n : a ≠ L := fun z => hm ⟨i, by rw [← z]; exact e1, .inr ⟨ds, e⟩⟩
    exact ⟨a, xs, e0, e1, by rw [upd_ne n]; exact e2, e3⟩
def dLc (di : DI) (g : DG) (t : DT) (e : DE) (vs : List Nat) : DA := fun Γ Q => di Γ fun ds Γ1 => okW Γ1 vs ∧ ∃ Pv : Nat → List PyData → DEnv → Prop, Pv 0 [] Γ1 ∧
  (∀ i d acc Γ', ds[i]? = some d → Pv i acc Γ' → g d (wipeD Γ' vs) fun Γ2 => t Γ2 fun b Γ3 => if b = true then e Γ3 fun y Γ4 => acc.length < 1000000 ∧ Pv (i + 1) (acc ++ [y]) (backD Γ4 Γ' vs) else Pv (i + 1) acc (backD Γ3 Γ' vs)) ∧
  ∀ acc Γ', Pv ds.length acc Γ' → Q acc Γ'
theorem dLc_mono {di : DI} {g : DG} {t : DT} {e : DE} {vs : List Nat} (mi : MonoK di) : MonoK (dLc di g t e vs) := fun Γ W W' m h => mi Γ _ _ (fun ds Γ1 ⟨ok, Pv, p0, ps, pd⟩ => ⟨ok, Pv, p0, ps, fun acc Γ' p => m _ _ (pd acc Γ' p)⟩) h
theorem okW_back {vs : List Nat} {Γ' : DEnv} (ok : okW Γ' vs) (ll : Γ.length = Γ'.length) : okW (backD Γ Γ' vs) vs := fun v hv => by
  obtain ⟨c, q1, q2⟩ := ok v hv
  exact ⟨c, by rw [backD_in ll hv]; exact q1, q2⟩
theorem lc_imp {di : DI} {g : DG} {t : DT} {e : DE} {vs js : List Nat} (mi : MonoK di) (mg : MonoG g) (mt : MonoK t) (me : MonoK e) (hj : ∀ j ∈ js, j ∈ vs) {Q : VK} (q : liftL K R (dLc di g t e vs) σ H Q) :
    tLc (liftI K R di) (liftG K R js g) (liftT K R t) (liftE K R e) vs σ H Q := by
  obtain ⟨Γ, D, r, q⟩ := q
  refine goI r mi q fun ds Γ1 J H1 D1 h1 r1 s1 it L hL => ?_
  obtain ⟨ok, Pv, p0, ps, pd⟩ := h1
  have hL0 : H L = none := step_free s1 hL
  have h0L := h0_none r1 hL
  have gr := Grow.tmp (o := .lst []) r1.sub hL
  refine ⟨fun i m H' => m = ds.length - i ∧ i ≤ ds.length ∧ ∃ Γ' D' acc xs, Rep K R σ H' Γ' D' ∧ Step σ Γ D H Γ' D' H' ∧ Same D1 D' ∧ H' L = some (.lst xs) ∧ D' L = none ∧ ¬ Mine σ Γ' L ∧ DpAll K D' xs acc ∧ okW Γ' vs ∧ Pv i acc Γ',
    ⟨ds.length, by simp, Nat.zero_le _, Γ1, D1, [], [], r1.grow gr, s1.trans gr.step, Same.refl _, upd_same, d_none r1.sub hL, mine_no r1 hL, .nil, ok, p0⟩, ?_⟩
  rintro i m H' ⟨rfl, hi, Γ', D', acc, xs, r', st, sm, hHL, hDL, nm, dacc, ok', p⟩
  by_cases hlt : i < ds.length
  · refine .inr ⟨it.go i H' D' sm r'.sub hlt, fun H5 => ∃ Γ5 D5 acc5 xs5, Rep K R σ H5 Γ5 D5 ∧ Step σ Γ D H Γ5 D5 H5 ∧ Same D1 D5 ∧ H5 L = some (.lst xs5) ∧ D5 L = none ∧ ¬ Mine σ Γ5 L ∧ DpAll K D5 xs5 acc5 ∧ okW Γ5 vs ∧ Pv (i + 1) acc5 Γ5,
      fun H5 h5 => ⟨ds.length - (i + 1), by omega, rfl, hlt, h5⟩, fun x H2 y => ?_⟩
    obtain ⟨D2, d, g2, ed, dp⟩ := it.yld i H' D' x H2 sm r'.sub hlt y
    have r2 := r'.grow g2
    have rw2 := r2.wiped ok'
    refine ⟨wipeD Γ' vs, D2, d, rw2, dp, mg d _ _ _ (fun Γ3 q3 σ3 r3 o3 => ⟨wipe_same o3 hj, goT r3 mt q3 fun b Γ4 H4 D4 h4 r4 s4 => ?_⟩) (ps i d acc Γ' ed p)⟩
    have so : ∀ i, i ∉ vs → σ3[i]? = σ[i]? := fun i n => by rw [o3.slots i fun z => n (hj i z), L2.wipe_out n]
    have sl : σ3.length = σ.length := by rw [o3.len, wipe_length]
    have nm3 : ¬ Mine σ3 Γ3 L := fun z => nm (mine_wiped (o3.mine L z))
    have hL2 : H2 L = some (.lst xs) := g2.h _ _ hHL
    have hD2 : D2 L = none := by
      cases q : D2 L with
      | none => rfl
      | some u =>
        rcases g2.new L u q with z | z
        · rw [hDL] at z; cases z
        · rw [hHL] at z; cases z
    -- the turn's end, from a state Γ5 D5 H5 behind steps of the block
    have fin : ∀ {Γ5 : DEnv} {D5 H5 : Hp} {acc5 : List PyData} {xs5 : List V}, Rep K R σ3 H5 Γ5 D5 → Step σ3 Γ3 D2 H2 Γ5 D5 H5 → DpAll K D5 xs5 acc5 → Pv (i + 1) acc5 (backD Γ5 Γ' vs) → (H5 L = some (.lst xs5) ∨ True) →
        ∀ H6, (H6 = H5 ∧ H5 L = some (.lst xs5)) ∨ H6 = upd H5 L (.lst xs5) → ∃ Γ6 D6 acc6 xs6, Rep K R σ H6 Γ6 D6 ∧ Step σ Γ D H Γ6 D6 H6 ∧ Same D1 D6 ∧ H6 L = some (.lst xs6) ∧ D6 L = none ∧ ¬ Mine σ Γ6 L ∧ DpAll K D6 xs6 acc6 ∧ okW Γ6 vs ∧ Pv (i + 1) acc6 Γ6 := fun {Γ5 D5 H5 acc5 xs5} r5 s5 da pv _ H6 h6 => by
      have ll : Γ5.length = Γ'.length := by rw [← r5.len, ← r'.len, sl]
      have hL5 : H5 L = some (.lst xs) := s5.keep _ _ hL2 nm3
      have hD5 : D5 L = none := by
        cases q : D5 L with
        | none => rfl
        | some u =>
          rcases s5.new L u q with z | z | z
          · rw [hD2] at z; cases z
          · rw [hL2] at z; cases z
          · exact (nm3 z).elim
      have nm5 : ¬ Mine σ (backD Γ5 Γ' vs) L := fun z => nm3 (s5.mine L (mine_back ok' ll so z))
      have rb := Rep.back r' ok' r5 so sl (g2.d.trans s5.d)
      have mchain : ∀ a, Mine σ3 Γ3 a → Mine σ Γ a := fun a z => st.mine a (mine_wiped (o3.mine a z))
      have stB : Step σ Γ D H (backD Γ5 Γ' vs) D5 H5 := by
        refine ⟨st.d.trans (g2.d.trans s5.d), fun a o h n => s5.keep a o (g2.h _ _ (st.keep a o h n)) fun z => n (mchain a z), fun a z => mchain a (s5.mine a (mine_back ok' ll so z)), fun a o h => ?_, fun a o h => ?_⟩
        · rcases s5.new a o h with z | z | z
          · rcases g2.new a o z with z | z
            · exact st.new a o z
            · refine .inr (.inl ?_)
              cases q : H a with
              | none => rfl
              | some u =>
                obtain ⟨u', e⟩ := st.there a u q
                rw [e] at z; cases z
          · refine .inr (.inl ?_)
            cases q : H a with
            | none => rfl
            | some u =>
              obtain ⟨u', e⟩ := st.there a u q
              rw [g2.h _ _ e] at z; cases z
          · exact .inr (.inr (mchain a z))
        · obtain ⟨o', e⟩ := st.there a o h
          exact s5.there a o' (g2.h _ _ e)
      rcases h6 with ⟨rfl, h6⟩ | rfl
      · exact ⟨_, D5, acc5, xs5, rb, stB, sm.trans (g2.d.trans s5.d), h6, hD5, nm5, da, okW_back ok' ll, pv⟩
      · refine ⟨_, D5, acc5, xs5, rb.tmpL h0L hD5 nm5, ⟨stB.d, fun a o h n => ?_, stB.mine, stB.new, fun a o h => ?_⟩, sm.trans (g2.d.trans s5.d), upd_same, hD5, nm5, da, okW_back ok' ll, pv⟩
        · rw [upd_ne (ne_of_none h hL0)]; exact stB.keep a o h n
        · rw [upd_ne (ne_of_none h hL0)]; exact stB.there a o h
    cases b with
    | true =>
      refine goE r4 me h4 fun y Γ5 v H5 D5 h5 r5 s5 dp5 => ?_
      have s45 := s4.trans s5
      have hL5 : H5 L = some (.lst xs) := s45.keep _ _ hL2 nm3
      have da5 : DpAll K D5 (xs ++ [v]) (acc ++ [y]) := dpAll_app (dpAll_mono (g2.d.trans s45.d) dacc) (.cons dp5 .nil)
      refine ⟨xs, hL5, by rw [dpAll_len dacc]; exact Nat.lt_of_lt_of_le h5.1 (by decide), ?_⟩
      exact fin r5 s45 da5 h5.2 (.inr trivial) _ (.inr rfl)
    | false =>
      exact fin r4 s4 (dpAll_mono (g2.d.trans s4.d) dacc) h4 (.inr trivial) H4 (.inl ⟨rfl, s4.keep _ _ hL2 nm3⟩)
  · have e : i = ds.length := by omega
    subst e
    exact .inl ⟨it.stop H' D' sm r'.sub, pd acc Γ' p L xs H' D' r' st hL0 hHL hDL nm dacc⟩
structure PDTs (X : Cx) (R : Root) (ifs : List Expr) (t : DT) : Prop where
  pts : PTs X ifs (liftT X.K R t)
  mono : MonoK t
def dYes : DT := fun Γ Q => Q true Γ
theorem pdts_nil : PDTs X R [] dYes := ⟨⟨fun pins s σ H Q I ⟨Γ, D, r, q⟩ => pts_nil.run pins s σ H Q I (q H D r Step.refl)⟩, fun Γ W W' m h => m _ _ h⟩
theorem pdts_one {c : Expr} {t : DT} (h : PDT X R c t) : PDTs X R [c] t := ⟨pts_one h.pt, h.mono⟩
theorem pdl_lc {elt tg iter : Expr} {ifs : List Expr} {scope : Scope} {own : List (Str × Nat)} {pos : Pos} {di : DI} {g : DG} {t : DT} {e : DE} {js : List Nat} (hc : X.calm = true) (hN : X.N.Nodup) (hi : PDI X R tg iter di) (ok : BlkOk X.N X.env.scope scope own)
    (hg : ∀ (s : Shared) (H : Hp) (C : Addr) (cl : List (Str × Addr)) (fp : List Addr), PDG (X.blk s H scope (compEnvC scope cl C X.env) fp) R js tg g) (ht : ∀ (s : Shared) (H : Hp) (C : Addr) (cl : List (Str × Addr)) (fp : List Addr), PDTs (X.blk s H scope (compEnvC scope cl C X.env) fp) R ifs t)
    (he : ∀ (s : Shared) (H : Hp) (C : Addr) (cl : List (Str × Addr)) (fp : List Addr), PDE (X.blk s H scope (compEnvC scope cl C X.env) fp) R elt e) (hj : ∀ j ∈ js, j ∈ own.map (·.2) := by decide) (hs : ∀ x, foldedSetIterable iter X.env x = pure x := by intro _; rfl) :
    PDL X R (.ListComp elt [⟨tg, iter, ifs, 0⟩] scope pos) (dLc di g t e (own.map (·.2))) := by
  have s0 : Shared := X.s_0
  have H0 : Hp := X.H_0
  refine ⟨pe_imp (pe_lc (g := liftG X.K R js g) (tt := liftT X.K R t) (te := liftE X.K R e) hc hN hi.pi ok (fun s H C cl fp => (hg s H C cl fp).pg) (fun s H C cl fp => (ht s H C cl fp).pts) (fun s H C cl fp => (he s H C cl fp).pe) hs) fun σ H Q q => ?_, dLc_mono hi.mono⟩
  exact lc_imp hi.mono (hg s0 H0 0 [] []).mono (ht s0 H0 0 [] []).mono (he s0 H0 0 [] []).mono hj q
theorem pds_setLcO {i : Nat} {y : Str} {py : Pos} {elt tg iter : Expr} {ifs : List Expr} {scope : Scope} {own : List (Str × Nat)} {pos spos : Pos} {di : DI} {g : DG} {t : DT} {e : DE} {js : List Nat} (hc : X.calm = true) (hN : X.N.Nodup)
    (hsw : swapsWith (.ListComp elt [⟨tg, iter, ifs, 0⟩] scope pos) (some (.Name y py)) spos.line X.env = pure true) (hi : PDI X R tg iter di) (ok : BlkOk X.N X.env.scope scope own)
    (hg : ∀ (s : Shared) (H : Hp) (C : Addr) (cl : List (Str × Addr)) (fp : List Addr), PDG (X.blk s H scope (compEnvC scope cl C X.env) fp) R js tg g) (ht : ∀ (s : Shared) (H : Hp) (C : Addr) (cl : List (Str × Addr)) (fp : List Addr), PDTs (X.blk s H scope (compEnvC scope cl C X.env) fp) R ifs t)
    (he : ∀ (s : Shared) (H : Hp) (C : Addr) (cl : List (Str × Addr)) (fp : List Addr), PDE (X.blk s H scope (compEnvC scope cl C X.env) fp) R elt e) (hj : ∀ j ∈ js, j ∈ own.map (·.2) := by decide) (hy : X.N[i]? = some y := by rfl) (hyl : X.env.scope.names.lookup y = some .local := by rfl) (hs : ∀ x, foldedSetIterable iter X.env x = pure x := by intro _; rfl) :
    PDS X R (.Assign [.Name y py] (.ListComp elt [⟨tg, iter, ifs, 0⟩] scope pos) spos) (dAsgO (dLc di g t e (own.map (·.2))) i) := by
  have s0 : Shared := X.s_0
  have H0 : Hp := X.H_0
  refine ⟨ps_imp (ps_setLc (g := liftG X.K R js g) (tt := liftT X.K R t) (te := liftE X.K R e) hc hN hy hyl hsw hi.pi ok (fun s H C cl fp => (hg s H C cl fp).pg) (fun s H C cl fp => (ht s H C cl fp).pts) (fun s H C cl fp => (he s H C cl fp).pe) hs) fun E σ H ⟨Γ, D, r, q⟩ => ?_, dAsgO_mono (dLc_mono hi.mono)⟩
  refine lc_imp hi.mono (hg s0 H0 0 [] []).mono (ht s0 H0 0 [] []).mono (he s0 H0 0 [] []).mono hj ?_
  refine goL r (dLc_mono hi.mono) q fun ds Γ1 p xs H1 D1 h1 r1 s1 hp hp1 hD1 nm q1 => ?_
  obtain ⟨Γ2, h2, r2⟩ := setO_go r1 (h0_none r hp) hp1 hD1 nm q1 h1
  exact h2 _ H1 D1 r2 s1.d
theorem pds_setLc {i : Nat} {y : Str} {py : Pos} {elt tg iter : Expr} {ifs : List Expr} {scope : Scope} {own : List (Str × Nat)} {pos spos : Pos} {di : DI} {g : DG} {t : DT} {e : DE} {js : List Nat} (hc : X.calm = true) (hN : X.N.Nodup)
    (hsw : swapsWith (.ListComp elt [⟨tg, iter, ifs, 0⟩] scope pos) (some (.Name y py)) spos.line X.env = pure true) (hi : PDI X R tg iter di) (ok : BlkOk X.N X.env.scope scope own)
    (hg : ∀ (s : Shared) (H : Hp) (C : Addr) (cl : List (Str × Addr)) (fp : List Addr), PDG (X.blk s H scope (compEnvC scope cl C X.env) fp) R js tg g) (ht : ∀ (s : Shared) (H : Hp) (C : Addr) (cl : List (Str × Addr)) (fp : List Addr), PDTs (X.blk s H scope (compEnvC scope cl C X.env) fp) R ifs t)
    (he : ∀ (s : Shared) (H : Hp) (C : Addr) (cl : List (Str × Addr)) (fp : List Addr), PDE (X.blk s H scope (compEnvC scope cl C X.env) fp) R elt e) (hj : ∀ j ∈ js, j ∈ own.map (·.2) := by decide) (hy : X.N[i]? = some y := by rfl) (hyl : X.env.scope.names.lookup y = some .local := by rfl) (hs : ∀ x, foldedSetIterable iter X.env x = pure x := by intro _; rfl) :
    PDS X R (.Assign [.Name y py] (.ListComp elt [⟨tg, iter, ifs, 0⟩] scope pos) spos) (dAsg (dFrz (dLc di g t e (own.map (·.2)))) i) := by
  have s0 : Shared := X.s_0
  have H0 : Hp := X.H_0
  refine ⟨ps_imp (ps_setLc (g := liftG X.K R js g) (tt := liftT X.K R t) (te := liftE X.K R e) hc hN hy hyl hsw hi.pi ok (fun s H C cl fp => (hg s H C cl fp).pg) (fun s H C cl fp => (ht s H C cl fp).pts) (fun s H C cl fp => (he s H C cl fp).pe) hs) fun E σ H ⟨Γ, D, r, q⟩ => ?_, dAsg_mono (dFrz_mono (dLc_mono hi.mono))⟩
  refine lc_imp hi.mono (hg s0 H0 0 [] []).mono (ht s0 H0 0 [] []).mono (he s0 H0 0 [] []).mono hj ?_
  refine goL r (dLc_mono hi.mono) q fun ds Γ1 p xs H1 D1 h1 r1 s1 hp hp1 hD1 nm q1 => ?_
  have r2 := frz_grow r1 (h0_none r hp) hp1 hD1 nm
  have sm : Same D1 (upd D1 p (.lst xs)) := fun b u e => by rw [upd_ne (ne_of_none e hD1)]; exact e
  obtain ⟨Γ3, h3, r3⟩ := setD_go r2 (.lst (SqX.of upd_same) (dpAll_mono sm q1)) h1
  exact h3 _ H1 _ r3 (s1.d.trans sm)
end
end DL

set_option Elab.async false
set_option linter.all false
set_option maxRecDepth 100000
set_option maxHeartbeats 1000000
namespace DL
open PySem PySem.Spec PyProof.Rows L2


abbrev PSpec := List PyData → (PyData → Prop) → Prop
def spP (K : PySem.W.Frag) (t : PSpec) : Sp := fun vs H Q _ => ∃ D ds, Sub D H ∧ DpAll K D vs ds ∧ t ds fun r => ∀ v H' D', Grow D H D' H' → Dp K D' v r → Q v H'
abbrev FSpec := List PyData → List PyData → (PyData → List PyData → Prop) → Prop
structure GrowBut (a : Addr) (D H D' H' : Hp) : Prop where
  h : ∀ b o, H b = some o → b ≠ a → H' b = some o
  d : Same D D'
  sub : Sub D' H'
  new : ∀ b o, D' b = some o → D b = some o ∨ H b = none
def spF (K : PySem.W.Frag) (t : FSpec) : Sp := fun vs H Q _ => ∃ D a xs ds vs' ds', vs = .ref a :: vs' ∧ Sub D H ∧ H a = some (.lst xs) ∧ D a = none ∧ DpAll K D xs ds ∧ DpAll K D vs' ds' ∧
  t ds ds' fun r es => ∀ v H' D' xs', GrowBut a D H D' H' → H' a = some (.lst xs') → DpAll K D' xs' es → Dp K D' v r → Q v H'
def MonoP (t : PSpec) : Prop := ∀ ds (W W' : PyData → Prop), (∀ z, W z → W' z) → t ds W → t ds W'
def MonoF (t : FSpec) : Prop := ∀ fs ds (W W' : PyData → List PyData → Prop), (∀ z es, W z es → W' z es) → t fs ds W → t fs ds W'
def startD (N : List Str) (ds : List PyData) : DEnv := ds.map (fun d => some (Ent.dat d)) ++ List.replicate (N.length - ds.length) none
def startF (N : List Str) (fs ds : List PyData) : DEnv := some (Ent.arg fs) :: (ds.map (fun d => some (Ent.dat d)) ++ List.replicate (N.length - (ds.length + 1)) none)
section
variable {X : Cx} {R : Root} {K : PySem.W.Frag} {σ : L2.St} {H D : Hp} {Γ : DEnv}
theorem startD_get {N : List Str} {ds : List PyData} {i : Nat} {e : Ent} (h : (startD N ds)[i]? = some (some e)) : ∃ d, ds[i]? = some d ∧ e = Ent.dat d := by
  unfold startD at h
  by_cases hi : i < ds.length
  · rw [List.getElem?_append_left (by simpa using hi), List.getElem?_map, List.getElem?_eq_getElem hi] at h
    exact ⟨ds[i], List.getElem?_eq_getElem hi, (Option.some.inj (Option.some.inj h)).symm⟩
  · rw [List.getElem?_append_right (by simpa using hi), List.getElem?_replicate] at h
    split at h <;> cases h
theorem start_get {N : List Str} {vs : List V} {i : Nat} {v : V} (h : vs[i]? = some v) : (start N vs)[i]? = some (some v) := by
  obtain ⟨hi, _⟩ := List.getElem?_eq_some_iff.mp h -- k01
  unfold L2.start
  rw [List.getElem?_append_left (by simpa using hi), List.getElem?_map, h]
  rfl
theorem rep_start {N : List Str} {vs : List V} {ds : List PyData} (u : Sub D H) (hd : DpAll K D vs ds) : Rep K ⟨H, D, none⟩ (start N vs) H (startD N ds) D := by
  have el := dpAll_len hd
  refine ⟨u, Same.refl _, fun _ _ h => Or.inl h, fun _ _ h _ => h, ?_, fun i d e => ?_, fun i d e => ?_, fun i d e => ?_, (fun a e => nomatch e), fun i j d e a h1 _ _ _ => ?_, (fun a e => nomatch e)⟩
  · unfold L2.start startD
    simp only [List.length_append, List.length_map, List.length_replicate, el]
  · obtain ⟨d', e1, e2⟩ := startD_get e
    cases e2
    obtain ⟨v, q1, q2⟩ := dpAll_get hd e1
    exact ⟨v, start_get q1, q2⟩
  · obtain ⟨d', e1, e2⟩ := startD_get e
    cases e2
  · obtain ⟨d', e1, e2⟩ := startD_get e
    cases e2
  · obtain ⟨d', e1, e2⟩ := startD_get h1
    cases e2
theorem okP {P : Program} {w : World} {mg : Str → Option Value} {base : Heap} {x qual : Str} {st : Stmt} {f : Addr} {fd : FuncData} {N ps : List Str} {k : Nat} {t : PSpec} (F : Fun K x qual st f fd) (S : FnScope N ps (defScope st)) (len : ∀ ds Q, t ds Q → ds.length = ps.length) (mt : MonoP t)
    (hbody : ∀ (cdv : Value) (A : Around) (outer : List Env) (s : Shared) (H : Hp) (E : XK) (R : Root), Room k (A.deeper (envOfC qual (defScope st) s.heap.objs.size f cdv)) →
      ∃ b : DS, PDSs (cxOf CX0 P w K mg base N qual (defScope st) f cdv A outer s H E).nox R (defBody st) b ∧ ∀ ds (W : PyData → Prop), t ds W → b { nx := fun _ => W .none, rt := fun d _ => W d } (startD N ds)) : FnOk P w K mg base CX0 (k + 1) f fd ps (spP K t) := by
  refine F.ok S (fun vs H Q E h => ?_) (fun cdv A outer s H vs Q E hr h => ?_)
  · obtain ⟨D, ds, _, hd, q⟩ := h
    rw [dpAll_len hd]
    exact len ds _ q
  · obtain ⟨D, ds, u, hd, q⟩ := h
    obtain ⟨b, hb, hq⟩ := hbody cdv A outer s H E ⟨H, D, none⟩ hr
    refine ⟨_, hb.pss, startD N ds, D, rep_start u hd, ?_⟩
    have grow : ∀ {σ' : L2.St} {H' : Hp} {Γ' : DEnv} {D' : Hp}, Rep K ⟨H, D, none⟩ σ' H' Γ' D' → Grow D H D' H' := fun r => ⟨fun b o e => r.kept b o e (fun z => nomatch z), r.ext, r.sub, r.new⟩
    refine hb.mono _ _ _ ⟨fun Γ' z σ' H' D' r' _ => ?_, fun d Γ' z v σ' H' D' r' _ dp => ?_, fun _ z => False.elim z, fun _ z => False.elim z⟩ (hq ds (fun r => ∀ v H' D', Grow D H D' H' → Dp K D' v r → Q v H') q)
    · exact z .non H' D' (grow r') .non
    · exact z v H' D' (grow r') dp
theorem rep_startF {N : List Str} {vs : List V} {fs ds : List PyData} {a : Addr} {xs : List V} (u : Sub D H) (ha : H a = some (.lst xs)) (hD : D a = none) (hx : DpAll K D xs fs) (hd : DpAll K D vs ds) : Rep K ⟨H, D, some a⟩ (start N (.ref a :: vs)) H (startF N fs ds) D := by
  have el := dpAll_len hd
  have cls : ∀ (i : Nat) (e : Ent), (startF N fs ds)[i]? = some (some e) → (i = 0 ∧ e = Ent.arg fs) ∨ ∃ j d, i = j + 1 ∧ ds[j]? = some d ∧ e = Ent.dat d := fun i e h => by
    unfold startF at h
    cases i with
    | zero => exact .inl ⟨rfl, (Option.some.inj (Option.some.inj h)).symm⟩
    | succ j =>
      have h : (ds.map (fun d => some (Ent.dat d)) ++ List.replicate (N.length - (ds.length + 1)) none)[j]? = some (some e) := by simpa using h
      by_cases hi : j < ds.length
      · rw [List.getElem?_append_left (by simpa using hi), List.getElem?_map, List.getElem?_eq_getElem hi] at h
        exact .inr ⟨j, ds[j], rfl, List.getElem?_eq_getElem hi, (Option.some.inj (Option.some.inj h)).symm⟩
      · rw [List.getElem?_append_right (by simpa using hi), List.getElem?_replicate] at h
        split at h <;> cases h
  have s0 : (start N (.ref a :: vs))[0]? = some (some (V.ref a)) := start_get rfl
  refine ⟨u, Same.refl _, fun _ _ h => .inl h, fun _ _ h _ => h, ?_, fun i d e => ?_, fun i d e => ?_, fun i d e => ?_, fun b e => ?_, fun i j d e b h1 _ _ _ => ?_, fun b e => ?_⟩
  · unfold L2.start startF
    simp only [List.length_append, List.length_map, List.length_replicate, List.length_cons, el]
    omega
  · rcases cls i _ e with ⟨_, z⟩ | ⟨j, d', e0, e1, e2⟩
    · cases z
    · cases e2
      subst e0
      obtain ⟨v, q1, q2⟩ := dpAll_get hd e1
      exact ⟨v, start_get (by simpa using q1), q2⟩
  · rcases cls i _ e with ⟨_, z⟩ | ⟨j, d', e0, e1, e2⟩
    · cases z
    · cases e2
  · rcases cls i _ e with ⟨e0, z⟩ | ⟨j, d', e0, e1, e2⟩
    · cases z
      subst e0
      exact ⟨a, xs, rfl, s0, ha, hD, hx⟩
    · cases e2
  · refine ⟨fs, rfl, fun i ds' e => ?_⟩
    rcases cls i _ e with ⟨e0, z⟩ | ⟨j, d', e0, e1, e2⟩
    · exact e0
    · cases e2
  · rcases cls i _ h1 with ⟨e0, z⟩ | ⟨j, d', e0, e1, e2⟩
    · cases z
    · cases e2
  · cases e
    exact ⟨_, ha⟩
theorem okF {P : Program} {w : World} {mg : Str → Option Value} {base : Heap} {x qual : Str} {st : Stmt} {f : Addr} {fd : FuncData} {N ps : List Str} {k : Nat} {t : FSpec} (F : Fun K x qual st f fd) (S : FnScope N ps (defScope st)) (len : ∀ fs ds Q, t fs ds Q → ds.length + 1 = ps.length) (mt : MonoF t)
    (hbody : ∀ (cdv : Value) (A : Around) (outer : List Env) (s : Shared) (H : Hp) (E : XK) (R : Root), Room k (A.deeper (envOfC qual (defScope st) s.heap.objs.size f cdv)) →
      ∃ b : DS, PDSs (cxOf CX0 P w K mg base N qual (defScope st) f cdv A outer s H E).nox R (defBody st) b ∧ ∀ fs ds (W : PyData → List PyData → Prop), t fs ds W →
        b { nx := fun Γ => ∀ es, Γ[0]? = some (some (Ent.arg es)) → W .none es, rt := fun d Γ => ∀ es, Γ[0]? = some (some (Ent.arg es)) → W d es } (startF N fs ds)) : FnOk P w K mg base CX0 (k + 1) f fd ps (spF K t) := by
  refine F.ok S (fun vs H Q E h => ?_) (fun cdv A outer s H vs Q E hr h => ?_)
  · obtain ⟨D, a, xs, fs, vs', ds, rfl, _, _, _, _, hd, q⟩ := h
    rw [List.length_cons, dpAll_len hd]
    exact len fs ds _ q
  · obtain ⟨D, a, xs, fs, vs', ds, rfl, u, ha, hD, hx, hd, q⟩ := h
    obtain ⟨b, hb, hq⟩ := hbody cdv A outer s H E ⟨H, D, some a⟩ hr
    refine ⟨_, hb.pss, startF N fs ds, D, rep_startF u ha hD hx hd, ?_⟩
    have grow : ∀ {σ' : L2.St} {H' : Hp} {Γ' : DEnv} {D' : Hp}, Rep K ⟨H, D, some a⟩ σ' H' Γ' D' → GrowBut a D H D' H' := fun r => ⟨fun b o e n => r.kept b o e (fun z => n (Option.some.inj z).symm), r.ext, r.sub, r.new⟩
    have last : ∀ {σ' : L2.St} {H' : Hp} {Γ' : DEnv} {D' : Hp}, Rep K ⟨H, D, some a⟩ σ' H' Γ' D' → ∃ es xs', Γ'[0]? = some (some (Ent.arg es)) ∧ H' a = some (.lst xs') ∧ DpAll K D' xs' es := fun r => by
      obtain ⟨es, e1, _⟩ := r.a0 a rfl
      obtain ⟨a', xs', e0, _, e2, _, e4⟩ := r.arg 0 es e1
      cases e0
      exact ⟨es, xs', e1, e2, e4⟩
    refine hb.mono _ _ _ ⟨fun Γ' z σ' H' D' r' _ => ?_, fun d Γ' z v σ' H' D' r' _ dp => ?_, fun _ z => False.elim z, fun _ z => False.elim z⟩ (hq fs ds (fun r es => ∀ v H' D' xs', GrowBut a D H D' H' → H' a = some (.lst xs') → DpAll K D' xs' es → Dp K D' v r → Q v H') q)
    · obtain ⟨es, xs', e1, e2, e3⟩ := last r'
      exact z es e1 .non H' D' xs' (grow r') e2 e3 .non
    · obtain ⟨es, xs', e1, e2, e3⟩ := last r'
      exact z es e1 v H' D' xs' (grow r') e2 e3 dp


def dCallP (t : PSpec) (a : DA) : DE := fun Γ Q => a Γ fun ds Γ1 => t ds fun r => Q r Γ1
theorem dCallP_mono {t : PSpec} {a : DA} (mt : MonoP t) (ma : MonoK a) : MonoK (dCallP t a) := fun Γ W W' m h => ma Γ _ _ (fun ds Γ1 q => mt ds _ _ (fun z w => m z Γ1 w) q) h
theorem pde_call {CX : CXT} {k : Nat} {f : Addr} {fd : FuncData} {ps : List Str} {t : PSpec} {E : XK} {x : Str} {p pos : Pos} {e : Expr} {es : List Expr} {a : DA} (mt : MonoP t) (F : FnOk X.prog X.w X.K X.mg X.base CX k f fd ps (spP X.K t)) (hr : Room k X.A) (hm : X.mg x = some (.ref f)) (hk : PySem.W.keepIn X.K (.ref f) = true) (hb : Binds X.K fd ps []) (hx : Passes CX X E)
    (ha : PDA X R (e :: es) a) (hg : Gl X x := by rfl) (hdb : (x == ("__debug__" : Str)) = false := by decide) (he : starEach (e :: es) X.env = (false, eval e X.env) :: starEach es X.env := by rfl) (hpl : (backTo pos (starEach es X.env)).any (·.1) = false := by rfl) : PDE X R (.Call (.Name x p) (e :: es) [] pos) (dCallP t a) := by
  refine ⟨pe_imp (pe_call F hr hg hm hk hb .nil hx ha.pa hdb he hpl) fun σ H Q ⟨Γ, D, r, q⟩ => ?_, dCallP_mono mt ha.mono⟩
  refine goA r ha.mono q fun ds Γ1 vs H1 D1 h1 r1 s1 q1 => ?_
  rw [List.append_nil]
  exact ⟨D1, ds, r1.sub, q1, mt ds _ _ (fun z w v H' D' g dp => w v H' D' (r1.grow g) (s1.trans g.step) dp) h1⟩
theorem pde_call0 {CX : CXT} {k : Nat} {f : Addr} {fd : FuncData} {ps : List Str} {t : PSpec} {E : XK} {x : Str} {p pos : Pos} (mt : MonoP t) (F : FnOk X.prog X.w X.K X.mg X.base CX k f fd ps (spP X.K t)) (hr : Room k X.A) (hm : X.mg x = some (.ref f)) (hk : PySem.W.keepIn X.K (.ref f) = true) (hb : Binds X.K fd ps []) (hx : Passes CX X E)
    (hg : Gl X x := by rfl) (hdb : (x == ("__debug__" : Str)) = false := by decide) : PDE X R (.Call (.Name x p) [] [] pos) (dCallP t dNil) := by
  refine ⟨pe_imp (pe_call0 F hr hg hm hk hb .nil hx hdb) fun σ H Q ⟨Γ, D, r, q⟩ => ?_, dCallP_mono mt dNil_mono⟩
  exact ⟨D, [], r.sub, .nil, mt [] _ _ (fun z w v H' D' g dp => w v H' D' (r.grow g) g.step dp) q⟩
def dCallF (i : Nat) (t : FSpec) (a : DA) : DE := fun Γ Q => match Γ[i]? with
  | some (some (Ent.own _)) => a Γ fun ds Γ1 => match Γ1[i]? with
    | some (some (Ent.own fs)) => t fs ds fun r es => Q r (Γ1.set i (some (Ent.own es)))
    | _ => False
  | some (some (Ent.arg _)) => a Γ fun ds Γ1 => match Γ1[i]? with
    | some (some (Ent.arg fs)) => t fs ds fun r es => Q r (Γ1.set i (some (Ent.arg es)))
    | _ => False
  | _ => False
theorem dCallF_mono {i : Nat} {t : FSpec} {a : DA} (mt : MonoF t) (ma : MonoK a) : MonoK (dCallF i t a) := fun Γ W W' m h => by
  unfold dCallF at h ⊢
  split at h
  · exact ma Γ _ _ (fun ds Γ1 q => by
      split at q
      · exact mt _ ds _ _ (fun z es w => m z _ w) q
      · exact q) h
  · exact ma Γ _ _ (fun ds Γ1 q => by
      split at q
      · exact mt _ ds _ _ (fun z es w => m z _ w) q
      · exact q) h
  · exact h
theorem Rep.called {i : Nat} {fs es : List PyData} {a : Addr} {xs' : List V} {H' D' : Hp} (r : Rep K R σ H Γ D) (hi : Γ[i]? = some (some (Ent.own fs))) (hs : σ[i]? = some (some (V.ref a))) (g : GrowBut a D H D' H') (ha : H' a = some (.lst xs')) (hx : DpAll K D' xs' es) :
    Rep K R σ H' (Γ.set i (some (Ent.own es))) D' ∧ Step σ Γ D H (Γ.set i (some (Ent.own es))) D' H' := by
  obtain ⟨a', xs, q1, q2, q3, q4, q5⟩ := r.own i fs hi
  rw [hs] at q1
  obtain rfl : a = a' := by cases q1; rfl
  have c := r.chg hi hs q2 q4
  have nD : ∀ b o, H b = some o → D b = none → D' b = none := fun b o h n => by
    cases q : D' b with
    | none => rfl
    | some u =>
      rcases g.new b u q with z | z
      · rw [n] at z; cases z
      · rw [h] at z; cases z
  have hDa : D' a = none := nD a _ q2 q3
  -- as if the heap had grown first, then the list been changed
  have g1 : Grow D H D' (fun b => if b = a then H a else H' b) := by
    refine ⟨fun b o e => ?_, g.d, fun b o e => ?_, g.new⟩
    · by_cases hb : b = a
      · subst hb; show (if _ then _ else _) = _; rw [if_pos rfl]; exact e
      · show (if _ then _ else _) = _; rw [if_neg hb]; exact g.h b o e hb
    · have hb : b ≠ a := fun z => by subst z; rw [hDa] at e; cases e
      show (if _ then _ else _) = _; rw [if_neg hb]; exact g.sub b o e
  have r1 := r.grow g1
  have e1 : (fun b => if b = a then H a else H' b) a = some (.lst xs) := by show (if _ then _ else _) = _; rw [if_pos rfl]; exact q2
  have c1 := r1.chg hi hs e1 hx
  have e2 : upd (fun b => if b = a then H a else H' b) a (.lst xs') = H' := by
    funext b
    by_cases hb : b = a
    · subst hb; rw [upd_same, ha]
    · rw [upd_ne hb]; show (if _ then _ else _) = _; rw [if_neg hb]
  rw [e2] at c1
  exact ⟨c1.1, g1.step.trans c1.2⟩
theorem Rep.calledA {i : Nat} {fs es : List PyData} {a : Addr} {xs' : List V} {H' D' : Hp} (r : Rep K R σ H Γ D) (hi : Γ[i]? = some (some (Ent.arg fs))) (hs : σ[i]? = some (some (V.ref a))) (g : GrowBut a D H D' H') (ha : H' a = some (.lst xs')) (hx : DpAll K D' xs' es) :
    Rep K R σ H' (Γ.set i (some (Ent.arg es))) D' ∧ Step σ Γ D H (Γ.set i (some (Ent.arg es))) D' H' := by
  obtain ⟨a', xs, q0, q1, q2, q3, q4⟩ := r.arg i fs hi
  rw [hs] at q1
  obtain rfl : a = a' := by cases q1; rfl
  have nD : ∀ b o, H b = some o → D b = none → D' b = none := fun b o h n => by
    cases q : D' b with
    | none => rfl
    | some u =>
      rcases g.new b u q with z | z
      · rw [n] at z; cases z
      · rw [h] at z; cases z
  have hDa : D' a = none := nD a _ q2 q3
  have g1 : Grow D H D' (fun b => if b = a then H a else H' b) := by
    refine ⟨fun b o e => ?_, g.d, fun b o e => ?_, g.new⟩
    · by_cases hb : b = a
      · subst hb; show (if _ then _ else _) = _; rw [if_pos rfl]; exact e
      · show (if _ then _ else _) = _; rw [if_neg hb]; exact g.h b o e hb
    · have hb : b ≠ a := fun z => by subst z; rw [hDa] at e; cases e
      show (if _ then _ else _) = _; rw [if_neg hb]; exact g.sub b o e
  have r1 := r.grow g1
  have e1 : (fun b => if b = a then H a else H' b) a = some (.lst xs) := by show (if _ then _ else _) = _; rw [if_pos rfl]; exact q2
  have c1 := r1.chgA hi hs e1 hx
  have e2 : upd (fun b => if b = a then H a else H' b) a (.lst xs') = H' := by
    funext b
    by_cases hb : b = a
    · subst hb; rw [upd_same, ha]
    · rw [upd_ne hb]; show (if _ then _ else _) = _; rw [if_neg hb]
  rw [e2] at c1
  exact ⟨c1.1, g1.step.trans c1.2⟩
theorem pde_callF {CX : CXT} {k : Nat} {f : Addr} {fd : FuncData} {ps : List Str} {t : FSpec} {E : XK} {x y : Str} {p py pos : Pos} {es : List Expr} {a : DA} (i : Nat) (mt : MonoF t) (F : FnOk X.prog X.w X.K X.mg X.base CX k f fd ps (spF X.K t)) (hr : Room k X.A) (hm : X.mg x = some (.ref f)) (hk : PySem.W.keepIn X.K (.ref f) = true) (hb : Binds X.K fd ps []) (hx : Passes CX X E)
    (ha : PDA X R es a) (hN : X.N[i]? = some y := by rfl) (hv : Vis X.env.scope y := by first | exact Or.inl rfl | exact Or.inr (Or.inl rfl) | exact Or.inr (Or.inr rfl)) (hd : (y == ("__debug__" : Str)) = false := by decide)
    (hcd : (y == ("__classdict__" : Str)) = false := by decide) (hg : Gl X x := by rfl) (hdb : (x == ("__debug__" : Str)) = false := by decide) (hs1 : starEach (.Name y py :: es) X.env = (false, eval (.Name y py) X.env) :: starEach es X.env := by rfl) (hpl : (backTo pos (starEach es X.env)).any (·.1) = false := by rfl) :
    PDE X R (.Call (.Name x p) (.Name y py :: es) [] pos) (dCallF i t a) := by
  refine ⟨pe_imp (pe_call F hr hg hm hk hb .nil hx (pa_cons (pe_var hN hv hd hcd) ha.pa hs1) hdb hs1 hpl) fun σ H Q ⟨Γ, D, r, q⟩ => ?_, dCallF_mono mt ha.mono⟩
  unfold dCallF at q
  split at q
  · rename_i fs0 e0
    obtain ⟨b, xs0, o1, o2, o3, o4, o5⟩ := r.own i fs0 e0
    refine ⟨.ref b, o1, goA r ha.mono q fun ds Γ1 vs H1 D1 h1 r1 s1 q1 => ?_⟩
    show spF X.K t ((V.ref b :: vs) ++ []) H1 Q E
    rw [List.append_nil]
    split at h1
    · rename_i fs e1
      obtain ⟨b', xs, p1, p2, p3, p4, p5⟩ := r1.own i fs e1
      rw [o1] at p1
      obtain rfl : b = b' := by cases p1; rfl
      refine ⟨D1, b, xs, fs, vs, ds, rfl, r1.sub, p2, p3, p4, q1, mt fs ds _ _ (fun z es w v H' D' xs' g ha' hx' dp => ?_) h1⟩
      obtain ⟨r2, s2⟩ := r1.called e1 o1 g ha' hx'
      exact w v H' D' r2 (s1.trans s2) dp
    · exact h1.elim
  · rename_i fs0 e0
    obtain ⟨b, xs0, o0, o1, o2, o3, o4⟩ := r.arg i fs0 e0
    refine ⟨.ref b, o1, goA r ha.mono q fun ds Γ1 vs H1 D1 h1 r1 s1 q1 => ?_⟩
    show spF X.K t ((V.ref b :: vs) ++ []) H1 Q E
    rw [List.append_nil]
    split at h1
    · rename_i fs e1
      obtain ⟨b', xs, p0, p1, p2, p3, p4⟩ := r1.arg i fs e1
      rw [o1] at p1
      obtain rfl : b = b' := by cases p1; rfl
      refine ⟨D1, b, xs, fs, vs, ds, rfl, r1.sub, p2, p3, p4, q1, mt fs ds _ _ (fun z es w v H' D' xs' g ha' hx' dp => ?_) h1⟩
      obtain ⟨r2, s2⟩ := r1.calledA e1 o1 g ha' hx'
      exact w v H' D' r2 (s1.trans s2) dp
    · exact h1.elim
  · exact q.elim


def dSee (i : Nat) (f : List PyData → (PyData → Prop) → Prop) : DE := fun Γ Q => match Γ[i]? with
  | some (some (Ent.own ds)) => f ds fun d => Q d Γ
  | some (some (Ent.arg ds)) => f ds fun d => Q d Γ
  | _ => False
def dAppend (i : Nat) (a : DE) : DS := fun E Γ => match Γ[i]? with
  | some (some (Ent.own _)) => a Γ fun d Γ1 => match Γ1[i]? with
    | some (some (Ent.own ds)) => ds.length < 1000000 ∧ E.nx (Γ1.set i (some (Ent.own (ds ++ [d]))))
    | _ => False
  | _ => False
theorem tyV_list {a : Addr} {xs : List V} (h : H a = some (.lst xs)) : tyV K "list" (.ref a) H := .inl ⟨rfl, _, SqL.of h⟩
theorem pds_append {y : Str} {py apos cpos pos : Pos} {e : Expr} {a : DE} (i : Nat) (he : PDE X R e a) (hN : X.N[i]? = some y := by rfl) (hv : Vis X.env.scope y := by first | exact Or.inl rfl | exact Or.inr (Or.inl rfl) | exact Or.inr (Or.inr rfl)) (hd : (y == ("__debug__" : Str)) = false := by decide)
    (hcd : (y == ("__classdict__" : Str)) = false := by decide) (hbase : attributeBase (.Name y py) "append" X.env (eval (.Name y py) X.env) = eval (.Name y py) X.env := by rfl)
    (hfew : ((backTo cpos (starEach [e] X.env)).all (fun x => !x.1) && (backToKw cpos (keywordEach [] X.env)).all (fun x => x.1.isSome) && decide ([e].length + ([] : List Keyword).length + (if ([] : List Keyword).isEmpty then 0 else 1) < 30)) = true := by rfl)
    (hline : (apos.endLine == cpos.line) = true := by rfl) (hs : starEach [e] X.env = (false, eval e X.env) :: starEach [] X.env := by rfl) (hplain : (backTo cpos (starEach [] X.env)).any (·.1) = false := by rfl)
    (hsw : swapsWith (.Call (.Attribute (.Name y py) "append" apos) [e] [] cpos) none pos.line X.env = pure false := by rfl) :
    PDS X R (.Expr (.Call (.Attribute (.Name y py) "append" apos) [e] [] cpos) pos) (dAppend i a) := by
  refine ⟨ps_imp (ps_expr (pe_bm PySem.F.plainAttrs_list PySem.F.slot_list_append PySem.F.type_list_append mt_append (pe_var hN hv hd hcd) (pa_cons he.pe pa_nil hs) hbase hfew hline hs hplain) hsw) fun E σ H ⟨Γ, D, r, q⟩ => ?_, fun E E' Γ l h => ?_⟩
  · unfold dAppend at q
    split at q
    · rename_i fs0 e0
      obtain ⟨b, xs0, o1, o2, o3, o4, o5⟩ := r.own i fs0 e0
      refine ⟨.ref b, o1, tyV_list o2, goE r he.mono q fun d Γ1 v H1 D1 h1 r1 s1 q1 => ?_⟩
      split at h1
      · rename_i fs e1
        obtain ⟨b', xs, p1, p2, p3, p4, p5⟩ := r1.own i fs e1
        rw [o1] at p1
        obtain rfl : b = b' := by cases p1; rfl
        refine ⟨b, xs, v, rfl, rfl, p2, by rw [dpAll_len p4]; exact Nat.lt_of_lt_of_le h1.1 (by decide), ?_⟩
        obtain ⟨r2, s2⟩ := r1.chg e1 o1 p2 (dpAll_app p4 (.cons q1 .nil))
        exact h1.2 σ _ _ r2 (s1.d.trans s2.d)
      · exact h1.elim
    · exact q.elim
  · unfold dAppend at h ⊢
    split at h
    · exact he.mono Γ _ _ (fun d Γ1 q => by
        split at q
        · exact ⟨q.1, l.nx _ q.2⟩
        · exact q) h
    · exact h
def dPop (i : Nat) : DE := fun Γ Q => match Γ[i]? with
  | some (some (Ent.own ds)) => ∃ d, ds[ds.length - 1]? = some d ∧ Q d (Γ.set i (some (Ent.own ds.dropLast)))
  | _ => False
theorem pde_pop {y : Str} {py apos cpos : Pos} (i : Nat) (hN : X.N[i]? = some y := by rfl) (hv : Vis X.env.scope y := by first | exact Or.inl rfl | exact Or.inr (Or.inl rfl) | exact Or.inr (Or.inr rfl)) (hd : (y == ("__debug__" : Str)) = false := by decide)
    (hcd : (y == ("__classdict__" : Str)) = false := by decide) (hbase : attributeBase (.Name y py) "pop" X.env (eval (.Name y py) X.env) = eval (.Name y py) X.env := by rfl) (hline : (apos.endLine == cpos.line) = true := by rfl) :
    PDE X R (.Call (.Attribute (.Name y py) "pop" apos) [] [] cpos) (dPop i) := by
  refine ⟨pe_imp (pe_bm0 PySem.F.plainAttrs_list PySem.F.slot_list_pop PySem.F.type_list_pop mt_pop (pe_var hN hv hd hcd) hbase hline) fun σ H Q ⟨Γ, D, r, q⟩ => ?_, fun Γ W W' m h => ?_⟩
  · unfold dPop at q
    split at q
    · rename_i fs e0
      obtain ⟨b, xs, o1, o2, o3, o4, o5⟩ := r.own i fs e0
      obtain ⟨d, hd', q⟩ := q
      obtain ⟨v, hv', dv⟩ := dpAll_get o4 hd'
      refine ⟨.ref b, o1, tyV_list o2, b, xs, v, rfl, rfl, o2, by rw [dpAll_len o4]; exact hv', ?_⟩
      obtain ⟨r2, s2⟩ := r.chg e0 o1 o2 (dpAll_dropLast o4)
      exact q v _ _ r2 s2 dv
    · exact q.elim
  · unfold dPop at h ⊢
    split at h
    · obtain ⟨d, e, q⟩ := h
      exact ⟨d, e, m _ _ q⟩
    · exact h
def dExtend (i : Nat) (a : DA) : DS := fun E Γ => match Γ[i]? with
  | some (some (Ent.own _)) => a Γ fun es Γ1 => match Γ1[i]? with
    | some (some (Ent.own ds)) => ds.length + es.length ≤ 1000000 ∧ E.nx (Γ1.set i (some (Ent.own (ds ++ es))))
    | _ => False
  | _ => False
theorem pds_extend {y : Str} {py apos cpos pos : Pos} {e : Expr} {a : DA} (i : Nat) (he : PDL X R e a) (hN : X.N[i]? = some y := by rfl) (hv : Vis X.env.scope y := by first | exact Or.inl rfl | exact Or.inr (Or.inl rfl) | exact Or.inr (Or.inr rfl)) (hd : (y == ("__debug__" : Str)) = false := by decide)
    (hcd : (y == ("__classdict__" : Str)) = false := by decide) (hbase : attributeBase (.Name y py) "extend" X.env (eval (.Name y py) X.env) = eval (.Name y py) X.env := by rfl)
    (hfew : ((backTo cpos (starEach [e] X.env)).all (fun x => !x.1) && (backToKw cpos (keywordEach [] X.env)).all (fun x => x.1.isSome) && decide ([e].length + ([] : List Keyword).length + (if ([] : List Keyword).isEmpty then 0 else 1) < 30)) = true := by rfl)
    (hline : (apos.endLine == cpos.line) = true := by rfl) (hs : starEach [e] X.env = (false, eval e X.env) :: starEach [] X.env := by rfl) (hplain : (backTo cpos (starEach [] X.env)).any (·.1) = false := by rfl)
    (hsw : swapsWith (.Call (.Attribute (.Name y py) "extend" apos) [e] [] cpos) none pos.line X.env = pure false := by rfl) :
    PDS X R (.Expr (.Call (.Attribute (.Name y py) "extend" apos) [e] [] cpos) pos) (dExtend i a) := by
  refine ⟨ps_imp (ps_expr (pe_bm PySem.F.plainAttrs_list PySem.F.slot_list_extend PySem.F.type_list_extend mt_extend (pe_var hN hv hd hcd) (pa_cons he.pl pa_nil hs) hbase hfew hline hs hplain) hsw) fun E σ H ⟨Γ, D, r, q⟩ => ?_, fun E E' Γ l h => ?_⟩
  · unfold dExtend at q
    split at q
    · rename_i fs0 e0
      obtain ⟨b, xs0, o1, o2, o3, o4, o5⟩ := r.own i fs0 e0
      refine ⟨.ref b, o1, tyV_list o2, goL r he.mono q fun es Γ1 p zs H1 D1 h1 r1 s1 hp hp1 hD1 nm q1 => ?_⟩
      split at h1
      · rename_i fs e1
        obtain ⟨b', xs, p1, p2, p3, p4, p5⟩ := r1.own i fs e1
        rw [o1] at p1
        obtain rfl : b = b' := by cases p1; rfl
        refine ⟨b, p, xs, zs, rfl, rfl, p2, hp1, by rw [dpAll_len p4, dpAll_len q1]; exact szM h1.1, ?_⟩
        obtain ⟨r2, s2⟩ := r1.chg e1 o1 p2 (dpAll_app p4 q1)
        exact h1.2 σ _ _ r2 (s1.d.trans s2.d)
      · exact h1.elim
    · exact q.elim
  · unfold dExtend at h ⊢
    split at h
    · exact he.mono Γ _ _ (fun d Γ1 q => by
        split at q
        · exact ⟨q.1, l.nx _ q.2⟩
        · exact q) h
    · exact h
def dSetItem (i : Nat) (b : DE) (a : DE) : DS := fun E Γ => a Γ fun d Γ1 => match Γ1[i]? with
  | some (some (Ent.own _)) => b Γ1 fun n Γ2 => match n, Γ2[i]? with
    | .int j, some (some (Ent.own ds)) => 0 ≤ j ∧ j < ds.length ∧ E.nx (Γ2.set i (some (Ent.own (ds.set j.toNat d))))
    | _, _ => False
  | some (some (Ent.arg _)) => b Γ1 fun n Γ2 => match n, Γ2[i]? with
    | .int j, some (some (Ent.arg ds)) => 0 ≤ j ∧ j < ds.length ∧ E.nx (Γ2.set i (some (Ent.arg (ds.set j.toNat d))))
    | _, _ => False
  | _ => False
theorem ixN_nat {n : Nat} {j : Int} (h0 : 0 ≤ j) (h : j < n) : ixN n j = some j.toNat := by unfold ixN; rw [if_pos h0, if_pos h]
theorem pds_setItem {y : Str} {py spos pos : Pos} {ix e : Expr} {a b : DE} (i : Nat) (he : PDE X R e a) (hix : PDE X R ix b) (hN : X.N[i]? = some y := by rfl) (hv : Vis X.env.scope y := by first | exact Or.inl rfl | exact Or.inr (Or.inl rfl) | exact Or.inr (Or.inr rfl)) (hd : (y == ("__debug__" : Str)) = false := by decide)
    (hcd : (y == ("__classdict__" : Str)) = false := by decide)
    (hasn : ∀ v, assign (.Subscript (.Name y py) ix spos) X.env v = (do
      let ov ← holding [v] (eval (.Name y py) X.env)
      let iv ← holding [v, ov] (eval ix X.env)
      standAt spos
      holding [v, ov, iv] (setItem ov iv v) -- k01
      release [v, ov, iv] []) := by intro _; rfl)
    (hs : swapsWithSole [.Subscript (.Name y py) ix spos] e pos.line X.env = pure false := by rfl) (hw : swappedStores [.Subscript (.Name y py) ix spos] e X.env = pure none := by rfl)
    (h1 : (assignEach [.Subscript (.Name y py) ix spos] X.env).map (·.2) = [assign (.Subscript (.Name y py) ix spos) X.env] := by rfl) :
    PDS X R (.Assign [.Subscript (.Name y py) ix spos] e pos) (dSetItem i b a) := by
  refine ⟨ps_imp (ps_asg he.pe (pg_sub (pe_var hN hv hd hcd) hix.pe set_list hasn) hs hw h1) fun E σ H ⟨Γ, D, r, q⟩ => ?_, fun E E' Γ l h => ?_⟩
  · refine goE r he.mono q fun d Γ1 v H1 D1 h1 r1 s1 q1 => ?_
    split at h1
    · rename_i fs0 e0
      obtain ⟨c, xs0, o1, o2, o3, o4, o5⟩ := r1.own i fs0 e0
      refine ⟨.ref c, o1, goE r1 hix.mono h1 fun n Γ2 w H2 D2 h2 r2 s2 q2 => ?_⟩
      split at h2
      · rename_i j fs e1
        cases q2
        obtain ⟨c', xs, p1, p2, p3, p4, p5⟩ := r2.own i fs e1
        rw [o1] at p1
        obtain rfl : c = c' := by cases p1; rfl
        refine ⟨c, xs, j, j.toNat, rfl, rfl, p2, ixN_nat h2.1 (by rw [dpAll_len p4]; exact h2.2.1), ?_⟩
        obtain ⟨r3, s3⟩ := r2.chg e1 o1 p2 (dpAll_set (i := j.toNat) p4 (dp_mono s2.d q1))
        exact h2.2.2 σ _ _ r3 (s1.d.trans (s2.d.trans s3.d))
      · exact h2.elim
    · rename_i fs0 e0
      obtain ⟨c, xs0, o0, o1, o2, o3, o4⟩ := r1.arg i fs0 e0
      refine ⟨.ref c, o1, goE r1 hix.mono h1 fun n Γ2 w H2 D2 h2 r2 s2 q2 => ?_⟩
      split at h2
      · rename_i j fs e1
        cases q2
        obtain ⟨c', xs, p0, p1, p2, p3, p4⟩ := r2.arg i fs e1
        rw [o1] at p1
        obtain rfl : c = c' := by cases p1; rfl
        refine ⟨c, xs, j, j.toNat, rfl, rfl, p2, ixN_nat h2.1 (by rw [dpAll_len p4]; exact h2.2.1), ?_⟩
        obtain ⟨r3, s3⟩ := r2.chgA e1 o1 p2 (dpAll_set (i := j.toNat) p4 (dp_mono s2.d q1))
        exact h2.2.2 σ _ _ r3 (s1.d.trans (s2.d.trans s3.d))
      · exact h2.elim
    · exact h1.elim
  · refine he.mono Γ _ _ (fun d Γ1 q => ?_) h
    split at q
    · refine hix.mono Γ1 _ _ (fun n Γ2 q2 => ?_) q
      split at q2
      · exact ⟨q2.1, q2.2.1, l.nx _ q2.2.2⟩
      · exact q2
    · refine hix.mono Γ1 _ _ (fun n Γ2 q2 => ?_) q
      split at q2
      · exact ⟨q2.1, q2.2.1, l.nx _ q2.2.2⟩
      · exact q2
    · exact q
def dTruO (i : Nat) : DT := fun Γ Q => match Γ[i]? with
  | some (some (Ent.own ds)) => Q (!ds.isEmpty) Γ
  | _ => False
theorem dpAll_empty {xs : List V} {ds : List PyData} (h : DpAll K D xs ds) : (!xs.isEmpty) = !ds.isEmpty := by
  cases ds with
  | nil => cases h; rfl
  | cons a b => cases h; rfl
theorem pdt_truO {y : Str} {py : Pos} (i : Nat) (hN : X.N[i]? = some y := by rfl) (hv : Vis X.env.scope y := by first | exact Or.inl rfl | exact Or.inr (Or.inl rfl) | exact Or.inr (Or.inr rfl)) (hd : (y == ("__debug__" : Str)) = false := by decide)
    (hcd : (y == ("__classdict__" : Str)) = false := by decide) (he : ∀ whole, isTrue (.Name y py) X.env whole = (do let v ← whole; standAt (Expr.pos (.Name y py)); holding [v] (truthy v)) := by intro _; rfl) : PDT X R (.Name y py) (dTruO i) := by
  refine ⟨pt_imp (pt_truth (pe_var hN hv hd hcd) he) fun σ H Q ⟨Γ, D, r, q⟩ => ?_, fun Γ W W' m h => ?_⟩
  · unfold dTruO at q
    split at q
    · rename_i fs e0
      obtain ⟨b, xs, o1, o2, o3, o4, o5⟩ := r.own i fs e0
      refine ⟨.ref b, o1, _, .inl ⟨xs, SqL.of o2, rfl⟩, ?_⟩
      rw [dpAll_empty o4]
      exact q H D r Step.refl
    · exact q.elim
  · unfold dTruO at h ⊢
    split at h
    · exact m _ _ h
    · exact h
end
end DL

set_option Elab.async false
set_option linter.all false
set_option maxRecDepth 100000
set_option maxHeartbeats 1000000
namespace DL
open PySem PySem.Spec PyProof.Rows L2


section
variable {X : Cx} {R : Root} {K : PySem.W.Frag} {σ : L2.St} {H D : Hp} {Γ : DEnv}
theorem bool_out {z : Bool} {Q : VK} (u : Sub D H) (h : ∀ v H' D', Grow D H D' H' → Dp K D' v (.bool z) → Q v H') : Q (.bl z) H := h _ H D (Grow.refl u) (.bl z)
theorem int_out {z : Int} {Q : VK} (u : Sub D H) (h : ∀ v H' D', Grow D H D' H' → Dp K D' v (.int z) → Q v H') : Q (.int z) H := h _ H D (Grow.refl u) (.int z)
theorem str_out {z : Str} {Q : VK} (u : Sub D H) (h : ∀ v H' D', Grow D H D' H' → Dp K D' v (.str z) → Q v H') : Q (.str z) H := h _ H D (Grow.refl u) (.str z)
def bInt (g : Int → Int → Int) (C : Int → Int → Prop) : PyData → PyData → (PyData → Prop) → Prop := fun d e Q => match d, e with | .int i, .int j => C i j ∧ Q (.int (g i j)) | _, _ => False
theorem bInt_mono {g C} : MonoB (bInt g C) := fun d e W W' m h => by
  unfold bInt at h ⊢
  split at h
  · exact ⟨h.1, m _ h.2⟩
  · exact h
theorem bInt_ok {g C} : OpD K (rI C fun i j => .int (g i j)) (bInt g C) := fun D H x y d e Q u hx hy h => by
  unfold bInt at h
  split at h
  · cases hx
    cases hy
    exact ⟨_, _, rfl, rfl, h.1, int_out u h.2⟩
  · exact h.elim
def rAddX (K : PySem.W.Frag) : R2 := fun x y H Q => (rI0 (fun i j => .int (i + j))) x y H Q ∨ (fun x y H Q => ∃ i j, x = .str i ∧ y = .str j ∧ i.length + j.length ≤ sizeLine ∧ Q (.str (i ++ j)) H) x y H Q ∨ rCatA K x y H Q
theorem op_addX : OpR X (binaryOp .Add) (rAddX X.K) := op_add.or (op_add_str.or op_catA)
def bAdd : PyData → PyData → (PyData → Prop) → Prop := fun d e Q => match d, e with
  | .int i, .int j => Q (.int (i + j))
  | .str a, .str b => a.length + b.length ≤ 1000000 ∧ Q (.str (a ++ b))
  | .tuple xs, .tuple ys => xs.length + ys.length ≤ 1000000 ∧ Q (.tuple (xs ++ ys))
  | _, _ => False
theorem bAdd_mono : MonoB bAdd := fun d e W W' m h => by
  unfold bAdd at h ⊢
  split at h
  · exact m _ h
  · exact ⟨h.1, m _ h.2⟩
  · exact ⟨h.1, m _ h.2⟩
  · exact h
theorem dpAll_nil_iff {xs : List V} {ds : List PyData} (h : DpAll K D xs ds) : xs = [] ↔ ds = [] := by
  cases h with
  | nil => simp
  | cons _ _ => simp
theorem bAdd_ok : OpD K (rAddX K) bAdd := fun D H x y d e Q u hx hy h => by
  unfold bAdd at h
  split at h
  · cases hx
    cases hy
    exact .inl ⟨_, _, rfl, rfl, int_out u h⟩
  · cases hx
    cases hy
    exact .inr (.inl ⟨_, _, rfl, rfl, szM h.1, str_out u h.2⟩)
  · rename_i ds es
    cases hx with
    | tup sx ax =>
      rename_i a xs
      cases hy with
      | tup sy ay =>
        rename_i b ys
        refine .inr (.inr ⟨a, b, xs, ys, rfl, rfl, sqT_mono u sx, sqT_mono u sy, by rw [dpAll_len ax, dpAll_len ay]; exact szM h.1, fun e1 => ?_, fun n1 e2 => ?_, fun n1 n2 p hp => ?_⟩)
        · have e1' := (dpAll_nil_iff ax).mp e1
          subst e1'
          exact h.2 _ H D (Grow.refl u) (.tup sy ay)
        · have e2' := (dpAll_nil_iff ay).mp e2
          subst e2'
          rw [List.append_nil] at h
          exact h.2 _ H D (Grow.refl u) (.tup sx ax)
        · have g := Grow.upd (o := .tup (xs ++ ys)) u hp
          exact h.2 _ _ _ g (.tup (SqT.of upd_same) (dpAll_app (dpAll_mono g.d ax) (dpAll_mono g.d ay)))
  · exact h.elim
theorem pde_add {a b : Expr} {pos : Pos} {da db : DE} (ha : PDE X R a da) (hb : PDE X R b db) : PDE X R (.BinOp a .Add b pos) (dOp bAdd da db) := pd_op op_addX bAdd_ok bAdd_mono ha hb
theorem rI0_I {g : Int → Int → V} : ∀ (x y : V) (H : Hp) (Q : VK), rI (fun _ _ => True) g x y H Q → rI0 g x y H Q := fun x y H Q ⟨i, j, e1, e2, _, q⟩ => ⟨i, j, e1, e2, q⟩
theorem opD_imp {r r' : R2} {b : PyData → PyData → (PyData → Prop) → Prop} (h : OpD K r b) (i : ∀ x y H Q, r x y H Q → r' x y H Q) : OpD K r' b := fun D H x y d e Q u hx hy q => i _ _ _ _ (h D H x y d e Q u hx hy q)
theorem pde_sub {a b : Expr} {pos : Pos} {da db : DE} (ha : PDE X R a da) (hb : PDE X R b db) : PDE X R (.BinOp a .Sub b pos) (dOp (bInt (fun i j => i - j) fun _ _ => True) da db) := pd_op op_sub (opD_imp bInt_ok rI0_I) bInt_mono ha hb
theorem pde_mul {a b : Expr} {pos : Pos} {da db : DE} (ha : PDE X R a da) (hb : PDE X R b db) : PDE X R (.BinOp a .Mult b pos) (dOp (bInt (fun i j => i * j) CMul) da db) := pd_op op_mul bInt_ok bInt_mono ha hb
theorem pde_mod {a b : Expr} {pos : Pos} {da db : DE} (ha : PDE X R a da) (hb : PDE X R b db) : PDE X R (.BinOp a .Mod b pos) (dOp (bInt (fun i j => i % j) fun _ j => 0 < j) da db) := pd_op op_mod bInt_ok bInt_mono ha hb
theorem pde_pow {a b : Expr} {pos : Pos} {da db : DE} (ha : PDE X R a da) (hb : PDE X R b db) : PDE X R (.BinOp a .Pow b pos) (dOp (bInt (fun i j => i ^ j.toNat) CPow) da db) := pd_op op_pow bInt_ok bInt_mono ha hb
def dNeg (a : DE) : DE := fun Γ Q => a Γ fun d Γ1 => match d with | .int i => Q (.int (-i)) Γ1 | _ => False
theorem pde_neg {a : Expr} {pos : Pos} {da : DE} (ha : PDE X R a da) : PDE X R (.UnaryOp .USub a pos) (dNeg da) := by
  refine ⟨pe_imp (pe_un un_neg ha.pe) fun σ H Q ⟨Γ, D, r, q⟩ => ?_, fun Γ W W' m h => ha.mono Γ _ _ (fun d Γ1 q => by cases d <;> first | exact m _ _ q | exact q) h⟩
  refine goE r ha.mono q fun d Γ1 v H1 D1 h1 r1 s1 q1 => ?_
  cases q1 with
  | int i => exact ⟨i, rfl, h1 _ H1 D1 r1 s1 (.int _)⟩
  | non => exact h1.elim
  | bl _ => exact h1.elim
  | str _ => exact h1.elim
  | lst _ _ => exact h1.elim
  | tup _ _ => exact h1.elim

def bEq : PyData → PyData → (PyData → Prop) → Prop := fun d e Q => SeqAt.shaped d = true ∧ SeqAt.shaped e = true ∧ Q (.bool (PyData.eqv d e))
def bNe : PyData → PyData → (PyData → Prop) → Prop := fun d e Q => SeqAt.shaped d = true ∧ SeqAt.shaped e = true ∧ Q (.bool (!PyData.eqv d e))
theorem bEq_mono : MonoB bEq := fun d e W W' m h => ⟨h.1, h.2.1, m _ h.2.2⟩
theorem bNe_mono : MonoB bNe := fun d e W W' m h => ⟨h.1, h.2.1, m _ h.2.2⟩
theorem bEq_ok : OpD K (rEqD K) bEq := fun D H x y d e Q u hx hy h => ⟨d, e, dp_l2 (dp_mono u hx), dp_l2 (dp_mono u hy), h.1, h.2.1, bool_out u h.2.2⟩
theorem bNe_ok : OpD K (rNeD K) bNe := fun D H x y d e Q u hx hy h => ⟨d, e, dp_l2 (dp_mono u hx), dp_l2 (dp_mono u hy), h.1, h.2.1, bool_out u h.2.2⟩
theorem pde_eq {a b : Expr} {pos : Pos} {da db : DE} (hu : X.A.units + 64 < cLine) (ha : PDE X R a da) (hb : PDE X R b db) : PDE X R (.Compare a [.Eq] [b] pos) (dOp bEq da db) := pd_cmp (op_eqD hu) bEq_ok bEq_mono ha hb (nomark _)
theorem pde_ne {a b : Expr} {pos : Pos} {da db : DE} (hu : X.A.units + 64 < cLine) (ha : PDE X R a da) (hb : PDE X R b db) : PDE X R (.Compare a [.NotEq] [b] pos) (dOp bNe da db) := pd_cmp (op_neD hu) bNe_ok bNe_mono ha hb (nomark _)
theorem pdt_eq {a b : Expr} {pos : Pos} {da db : DE} (hu : X.A.units + 64 < cLine) (ha : PDE X R a da) (hb : PDE X R b db) : PDT X R (.Compare a [.Eq] [b] pos) (dTest (dOp bEq da db)) := pdt_cmp (op_eqD hu) bEq_ok bEq_mono ha hb (nomark _)
theorem pdt_ne {a b : Expr} {pos : Pos} {da db : DE} (hu : X.A.units + 64 < cLine) (ha : PDE X R a da) (hb : PDE X R b db) : PDT X R (.Compare a [.NotEq] [b] pos) (dTest (dOp bNe da db)) := pdt_cmp (op_neD hu) bNe_ok bNe_mono ha hb (nomark _)
def isNone : PyData → Bool | .none => true | _ => false
def bIs : PyData → PyData → (PyData → Prop) → Prop := fun d e Q => e = .none ∧ Q (.bool (isNone d))
def bIsNot : PyData → PyData → (PyData → Prop) → Prop := fun d e Q => e = .none ∧ Q (.bool (!isNone d))
theorem bIs_mono : MonoB bIs := fun d e W W' m h => ⟨h.1, m _ h.2⟩
theorem bIsNot_mono : MonoB bIsNot := fun d e W W' m h => ⟨h.1, m _ h.2⟩
theorem none_dec {x : V} {d : PyData} (h : Dp K D x d) : decide (x = .non) = isNone d := by cases h <;> rfl
theorem bIs_ok : OpD K (fun x y H Q => y = .non ∧ Q (.bl (decide (x = .non))) H) bIs := fun D H x y d e Q u hx hy h => by
  obtain ⟨e1, h⟩ := h
  subst e1
  cases hy
  exact ⟨rfl, by rw [none_dec hx]; exact bool_out u h⟩
theorem bIsNot_ok : OpD K (fun x y H Q => y = .non ∧ Q (.bl (!decide (x = .non))) H) bIsNot := fun D H x y d e Q u hx hy h => by
  obtain ⟨e1, h⟩ := h
  subst e1
  cases hy
  exact ⟨rfl, by rw [none_dec hx]; exact bool_out u h⟩
theorem pde_is {a b : Expr} {pos : Pos} {da db : DE} (ha : PDE X R a da) (hb : PDE X R b db) : PDE X R (.Compare a [.Is] [b] pos) (dOp bIs da db) := pd_cmp op_isN bIs_ok bIs_mono ha hb (nomark _)
theorem pdt_is {a b : Expr} {pos : Pos} {da db : DE} (ha : PDE X R a da) (hb : PDE X R b db) : PDT X R (.Compare a [.Is] [b] pos) (dTest (dOp bIs da db)) := pdt_cmp op_isN bIs_ok bIs_mono ha hb (nomark _)
theorem pde_isnot {a b : Expr} {pos : Pos} {da db : DE} (ha : PDE X R a da) (hb : PDE X R b db) : PDE X R (.Compare a [.IsNot] [b] pos) (dOp bIsNot da db) := pd_cmp op_notN bIsNot_ok bIsNot_mono ha hb (nomark _)
theorem pdt_isnot {a b : Expr} {pos : Pos} {da db : DE} (ha : PDE X R a da) (hb : PDE X R b db) : PDT X R (.Compare a [.IsNot] [b] pos) (dTest (dOp bIsNot da db)) := pdt_cmp op_notN bIsNot_ok bIsNot_mono ha hb (nomark _)
def bOrd (f : Int → Int → Bool) (g : List Nat → List Nat → Bool) : PyData → PyData → (PyData → Prop) → Prop := fun d e Q => match d, e with | .int i, .int j => Q (.bool (f i j)) | .str a, .str b => Q (.bool (g a.cps.toList b.cps.toList)) | _, _ => False
theorem bOrd_mono {f g} : MonoB (bOrd f g) := fun d e W W' m h => by
  unfold bOrd at h ⊢
  split at h
  · exact m _ h
  · exact m _ h
  · exact h
theorem bOrd_ok {f : Int → Int → Bool} {g : List Nat → List Nat → Bool} : OpD K (fun x y H Q => rI0 (fun i j => .bl (f i j)) x y H Q ∨ ∃ i j : Str, x = .str i ∧ y = .str j ∧ Q (.bl (g i.cps.toList j.cps.toList)) H) (bOrd f g) := fun D H x y d e Q u hx hy h => by
  unfold bOrd at h
  split at h
  · cases hx
    cases hy
    exact .inl ⟨_, _, rfl, rfl, bool_out u h⟩
  · cases hx
    cases hy
    exact .inr ⟨_, _, rfl, rfl, bool_out u h⟩
  · exact h.elim
abbrev bLt := bOrd (fun i j => decide (i < j)) (fun a b => decide (a < b))
abbrev bLe := bOrd (fun i j => decide (i ≤ j)) (fun a b => !decide (b < a))
abbrev bGt := bOrd (fun i j => decide (j < i)) (fun a b => decide (b < a))
abbrev bGe := bOrd (fun i j => decide (j ≤ i)) (fun a b => !decide (a < b))
theorem op_ltX : OpR X (compareOp .Lt) (fun x y H Q => rI0 (fun i j => .bl (decide (i < j))) x y H Q ∨ ∃ i j : Str, x = .str i ∧ y = .str j ∧ Q (.bl (decide (i.cps.toList < j.cps.toList))) H) := op_lt.or op_lt_str
theorem op_leX : OpR X (compareOp .LtE) (fun x y H Q => rI0 (fun i j => .bl (decide (i ≤ j))) x y H Q ∨ ∃ i j : Str, x = .str i ∧ y = .str j ∧ Q (.bl (!decide (j.cps.toList < i.cps.toList))) H) := op_le.or op_le_str
theorem op_gtX : OpR X (compareOp .Gt) (fun x y H Q => rI0 (fun i j => .bl (decide (j < i))) x y H Q ∨ ∃ i j : Str, x = .str i ∧ y = .str j ∧ Q (.bl (decide (j.cps.toList < i.cps.toList))) H) := op_gt.or op_gt_str
theorem op_geX : OpR X (compareOp .GtE) (fun x y H Q => rI0 (fun i j => .bl (decide (j ≤ i))) x y H Q ∨ ∃ i j : Str, x = .str i ∧ y = .str j ∧ Q (.bl (!decide (i.cps.toList < j.cps.toList))) H) := op_ge.or op_ge_str
theorem pde_lt {a b : Expr} {pos : Pos} {da db : DE} (ha : PDE X R a da) (hb : PDE X R b db) : PDE X R (.Compare a [.Lt] [b] pos) (dOp bLt da db) := pd_cmp op_ltX bOrd_ok bOrd_mono ha hb (nomark _)
theorem pde_le {a b : Expr} {pos : Pos} {da db : DE} (ha : PDE X R a da) (hb : PDE X R b db) : PDE X R (.Compare a [.LtE] [b] pos) (dOp bLe da db) := pd_cmp op_leX bOrd_ok bOrd_mono ha hb (nomark _)
theorem pde_gt {a b : Expr} {pos : Pos} {da db : DE} (ha : PDE X R a da) (hb : PDE X R b db) : PDE X R (.Compare a [.Gt] [b] pos) (dOp bGt da db) := pd_cmp op_gtX bOrd_ok bOrd_mono ha hb (nomark _)
theorem pde_ge {a b : Expr} {pos : Pos} {da db : DE} (ha : PDE X R a da) (hb : PDE X R b db) : PDE X R (.Compare a [.GtE] [b] pos) (dOp bGe da db) := pd_cmp op_geX bOrd_ok bOrd_mono ha hb (nomark _)
theorem pdt_lt {a b : Expr} {pos : Pos} {da db : DE} (ha : PDE X R a da) (hb : PDE X R b db) : PDT X R (.Compare a [.Lt] [b] pos) (dTest (dOp bLt da db)) := pdt_cmp op_ltX bOrd_ok bOrd_mono ha hb (nomark _)
theorem pdt_le {a b : Expr} {pos : Pos} {da db : DE} (ha : PDE X R a da) (hb : PDE X R b db) : PDT X R (.Compare a [.LtE] [b] pos) (dTest (dOp bLe da db)) := pdt_cmp op_leX bOrd_ok bOrd_mono ha hb (nomark _)
theorem pdt_gt {a b : Expr} {pos : Pos} {da db : DE} (ha : PDE X R a da) (hb : PDE X R b db) : PDT X R (.Compare a [.Gt] [b] pos) (dTest (dOp bGt da db)) := pdt_cmp op_gtX bOrd_ok bOrd_mono ha hb (nomark _)
theorem pdt_ge {a b : Expr} {pos : Pos} {da db : DE} (ha : PDE X R a da) (hb : PDE X R b db) : PDT X R (.Compare a [.GtE] [b] pos) (dTest (dOp bGe da db)) := pdt_cmp op_geX bOrd_ok bOrd_mono ha hb (nomark _)
def dChain (p q : PyData → PyData → (PyData → Prop) → Prop) (a b c : DE) : DE := fun Γ Q => a Γ fun x Γ1 => b Γ1 fun y Γ2 => p x y fun z => match z with | .bool true => c Γ2 fun w Γ3 => q y w fun r => Q r Γ3 | .bool false => Q (.bool false) Γ2 | _ => False
theorem dChain_mono {p q : PyData → PyData → (PyData → Prop) → Prop} {a b c : DE} (mp : MonoB p) (mq : MonoB q) (ma : MonoK a) (mb : MonoK b) (mc : MonoK c) : MonoK (dChain p q a b c) := fun Γ W W' m h =>
  ma Γ _ _ (fun x Γ1 h1 => mb Γ1 _ _ (fun y Γ2 h2 => mp x y _ _ (fun z h3 => by
    split at h3
    · exact mc Γ2 _ _ (fun w Γ3 h4 => mq y w _ _ (fun r h5 => m r Γ3 h5) h4) h3
    · exact m _ _ h3
    · exact h3) h2) h1) h
theorem chain_imp {r r' : R2} {p q : PyData → PyData → (PyData → Prop) → Prop} {a b c : DE} (hp : OpD K r p) (hq : OpD K r' q) (mp : MonoB p) (mq : MonoB q) (ma : MonoK a) (mb : MonoK b) (mc : MonoK c) {Q : VK} (w : liftE K R (dChain p q a b c) σ H Q) :
    tChain r r' (liftE K R a) (liftE K R b) (liftE K R c) σ H Q := by
  obtain ⟨Γ, D, r0, h⟩ := w
  refine goE r0 ma h fun x Γ1 v H1 D1 h1 r1 s1 q1 => ?_
  refine goE r1 mb h1 fun y Γ2 u H2 D2 h2 r2 s2 q2 => ?_
  refine hp D2 H2 v u x y _ r2.sub (dp_mono s2.d q1) q2 (mp x y _ _ (fun z h3 v' H' D' g q3 => ?_) h2)
  have r3 := r2.grow g
  have s3 := (s1.trans s2).trans g.step
  cases q3 with
  | bl k =>
    refine ⟨k, rfl, ?_⟩
    cases k with
    | true =>
      refine iteT (goE r3 mc h3 fun w Γ3 t H4 D4 h4 r4 s4 q4 => ?_)
      exact hq D4 H4 u t y w Q r4.sub (dp_mono (g.d.trans s4.d) q2) q4 (mq y w _ _ (fun z2 h5 v5 H5 D5 g5 q5 => h5 v5 H5 D5 (r4.grow g5) (s3.trans (s4.trans g5.step)) q5) h4)
    | false => exact iteF (h3 _ H' D' r3 s3 (.bl false))
  | non => exact h3.elim
  | int _ => exact h3.elim
  | str _ => exact h3.elim
  | lst _ _ => exact h3.elim
  | tup _ _ => exact h3.elim
theorem pde_chain {op op' : CmpOp} {r r' : R2} {p q : PyData → PyData → (PyData → Prop) → Prop} {a b c : Expr} {pos : Pos} {da db dc : DE} (ho : OpR X (compareOp op) r) (ho' : OpR X (compareOp op') r') (hp : OpD X.K r p) (hq : OpD X.K r' q) (mp : MonoB p) (mq : MonoB q)
    (ha : PDE X R a da) (hb : PDE X R b db) (hc : PDE X R c dc) (hm : lastMarks [op, op'] [b, c] = false := by rfl) : PDE X R (.Compare a [op, op'] [b, c] pos) (dChain p q da db dc) :=
  ⟨pe_imp (pe_chain ho ho' ha.pe hb.pe hc.pe (hm := hm)) fun _ _ _ w => chain_imp hp hq mp mq ha.mono hb.mono hc.mono w, dChain_mono mp mq ha.mono hb.mono hc.mono⟩
theorem pdt_chain {op op' : CmpOp} {r r' : R2} {p q : PyData → PyData → (PyData → Prop) → Prop} {a b c : Expr} {pos : Pos} {da db dc : DE} (ho : OpR X (compareOp op) r) (ho' : OpR X (compareOp op') r') (hp : OpD X.K r p) (hq : OpD X.K r' q) (mp : MonoB p) (mq : MonoB q)
    (ha : PDE X R a da) (hb : PDE X R b db) (hc : PDE X R c dc) (hm : lastMarks [op, op'] [b, c] = false := by rfl) : PDT X R (.Compare a [op, op'] [b, c] pos) (dTest (dChain p q da db dc)) := by
  refine ⟨pt_imp (pt_chain ho ho' ha.pe hb.pe hc.pe (hm := hm)) fun σ H Q w => ?_, dTest_mono (dChain_mono mp mq ha.mono hb.mono hc.mono)⟩
  obtain ⟨Γ, D, r0, h⟩ := w
  show tChain r r' (liftE X.K R da) (liftE X.K R db) (liftE X.K R dc) σ H fun x H' => ∃ k, x = .bl k ∧ Q k H'
  refine chain_imp hp hq mp mq ha.mono hb.mono hc.mono ⟨Γ, D, r0, dChain_mono mp mq ha.mono hb.mono hc.mono Γ _ _ (fun d Γ1 w v H' D' r' st q => ?_) h⟩
  cases q with
  | bl b => exact ⟨b, rfl, w H' D' r' st⟩
  | non => exact w.elim
  | int _ => exact w.elim
  | str _ => exact w.elim
  | lst _ _ => exact w.elim
  | tup _ _ => exact w.elim
def flatD : PyData → Bool | .none => true | .bool _ => true | .int _ => true | .str _ => true | _ => false
def inD (d : PyData) (ds : List PyData) : Bool := ds.any fun z => PyData.eqv z d
def bIn (neg : Bool) : PyData → PyData → (PyData → Prop) → Prop := fun d e Q => match e with
  | .list ds => flatD d = true ∧ ds.all flatD = true ∧ Q (.bool (if neg then !inD d ds else inD d ds))
  | .tuple ds => flatD d = true ∧ ds.all flatD = true ∧ Q (.bool (if neg then !inD d ds else inD d ds))
  | _ => False
theorem bIn_mono {neg} : MonoB (bIn neg) := fun d e W W' m h => by
  unfold bIn at h ⊢
  split at h
  · exact ⟨h.1, h.2.1, m _ h.2.2⟩
  · exact ⟨h.1, h.2.1, m _ h.2.2⟩
  · exact h
theorem flat_dp {x : V} {d : PyData} (h : Dp K D x d) (f : flatD d = true) : flatV x = true := by
  cases h <;> first | rfl | cases f
theorem eqV_dp {x y : V} {d e : PyData} (h : Dp K D x d) (f : flatD d = true) (h' : Dp K D y e) (f' : flatD e = true) : eqV x y = PyData.eqv d e := by
  cases h <;> first | cases f | skip
  all_goals (cases h' <;> first | cases f' | skip)
  all_goals first | rfl | simp [eqV, PyData.eqv]
theorem inV_dp {x : V} {d : PyData} (h : Dp K D x d) (f : flatD d = true) : ∀ {xs : List V} {ds : List PyData}, DpAll K D xs ds → ds.all flatD = true → (xs.all flatV = true ∧ inV x xs = inD d ds)
  | _, _, .nil, _ => ⟨rfl, rfl⟩
  | _, _, .cons a b, g => by
    rw [List.all_cons, Bool.and_eq_true] at g
    obtain ⟨h1, h2⟩ := inV_dp h f b g.2
    refine ⟨by rw [List.all_cons, flat_dp a g.1, h1]; rfl, ?_⟩
    unfold inV inD at h2 ⊢
    rw [List.any_cons, List.any_cons, eqV_dp a g.1 h f, h2]
theorem bIn_ok {neg} : OpD K (rIn K neg) (bIn neg) := fun D H x y d e Q u hx hy h => by
  unfold bIn at h
  split at h
  · cases hy with
    | lst s a =>
      obtain ⟨f1, f2⟩ := inV_dp hx h.1 a h.2.1
      exact ⟨_, _, rfl, .inl (sqL_mono u s), flat_dp hx h.1, f1, by rw [f2]; exact bool_out u h.2.2⟩
  · cases hy with
    | tup s a =>
      obtain ⟨f1, f2⟩ := inV_dp hx h.1 a h.2.1
      exact ⟨_, _, rfl, .inr (sqT_mono u s), flat_dp hx h.1, f1, by rw [f2]; exact bool_out u h.2.2⟩
  · exact h.elim
theorem pde_in {a b : Expr} {pos : Pos} {da db : DE} (ha : PDE X R a da) (hb : PDE X R b db) (hm : behindInMarks .In b = false := by rfl) : PDE X R (.Compare a [.In] [b] pos) (dOp (bIn false) da db) := pd_cmp op_in_seq bIn_ok bIn_mono ha hb hm
theorem pdt_in {a b : Expr} {pos : Pos} {da db : DE} (ha : PDE X R a da) (hb : PDE X R b db) (hm : behindInMarks .In b = false := by rfl) : PDT X R (.Compare a [.In] [b] pos) (dTest (dOp (bIn false) da db)) := pdt_cmp op_in_seq bIn_ok bIn_mono ha hb hm
theorem pde_notin {a b : Expr} {pos : Pos} {da db : DE} (ha : PDE X R a da) (hb : PDE X R b db) (hm : behindInMarks .NotIn b = false := by rfl) : PDE X R (.Compare a [.NotIn] [b] pos) (dOp (bIn true) da db) := pd_cmp op_notIn_seq bIn_ok bIn_mono ha hb hm
theorem pdt_notin {a b : Expr} {pos : Pos} {da db : DE} (ha : PDE X R a da) (hb : PDE X R b db) (hm : behindInMarks .NotIn b = false := by rfl) : PDT X R (.Compare a [.NotIn] [b] pos) (dTest (dOp (bIn true) da db)) := pdt_cmp op_notIn_seq bIn_ok bIn_mono ha hb hm


def bIx : PyData → PyData → (PyData → Prop) → Prop := fun d e Q => match d, e with
  | .list ds, .int i => ∃ z, atI ds i = some z ∧ Q z
  | .tuple ds, .int i => ∃ z, atI ds i = some z ∧ Q z
  | .str x, .int i => x.length ≤ 1000000 ∧ ∃ c, atI x.cps.toList i = some c ∧ Q (.str ⟨#[c]⟩)
  | _, _ => False
theorem bIx_mono : MonoB bIx := fun d e W W' m h => by
  unfold bIx at h ⊢
  split at h
  · obtain ⟨z, e, q⟩ := h; exact ⟨z, e, m _ q⟩
  · obtain ⟨z, e, q⟩ := h; exact ⟨z, e, m _ q⟩
  · obtain ⟨l, z, e, q⟩ := h; exact ⟨l, z, e, m _ q⟩
  · exact h
theorem at_dp {xs : List V} {ds : List PyData} {i : Int} {z : PyData} (h : DpAll K D xs ds) (e : atI ds i = some z) : ∃ v, atI xs i = some v ∧ Dp K D v z := by
  unfold atI at e ⊢
  rw [dpAll_len h]
  cases q : ixN ds.length i with
  | none => rw [q] at e; cases e -- k01
  | some j =>
    rw [q] at e
    exact dpAll_get h e
theorem bIx_ok : OpD K (rIx K) bIx := fun D H x y d e Q u hx hy h => by
  unfold bIx at h
  split at h
  · cases hy
    cases hx with
    | lst s a =>
      obtain ⟨z, e, q⟩ := h
      obtain ⟨v, e1, q1⟩ := at_dp a e
      exact .inl ⟨_, _, _, v, rfl, rfl, sqL_mono u s, e1, q v H D (Grow.refl u) q1⟩
  · cases hy
    cases hx with
    | tup s a =>
      obtain ⟨z, e, q⟩ := h
      obtain ⟨v, e1, q1⟩ := at_dp a e
      exact .inr (.inl ⟨_, _, _, v, rfl, rfl, sqT_mono u s, e1, q v H D (Grow.refl u) q1⟩)
  · cases hy
    cases hx
    obtain ⟨l, c, e, q⟩ := h
    exact .inr (.inr ⟨_, _, c, rfl, rfl, szM l, e, str_out u q⟩)
  · exact h.elim
theorem pde_ix {a b : Expr} {pos : Pos} {da db : DE} (ha : PDE X R a da) (hb : PDE X R b db) (hs : PlainIx b := by intro _ _; rfl) : PDE X R (.Subscript a b pos) (dOp bIx da db) :=
  ⟨pe_imp (pe_ix ix_seq ha.pe hb.pe hs) fun _ _ _ q => op_imp bIx_ok bIx_mono ha.mono hb.mono q, dOp_mono bIx_mono ha.mono hb.mono⟩
def dIxO (i : Nat) (b : DE) : DE := fun Γ Q => match Γ[i]? with
  | some (some (Ent.own _)) => b Γ fun n Γ1 => match n, Γ1[i]? with
    | .int j, some (some (Ent.own ds)) => ∃ z, atI ds j = some z ∧ Q z Γ1
    | _, _ => False
  | some (some (Ent.arg _)) => b Γ fun n Γ1 => match n, Γ1[i]? with
    | .int j, some (some (Ent.arg ds)) => ∃ z, atI ds j = some z ∧ Q z Γ1
    | _, _ => False
  | _ => False
theorem pde_ixO {y : Str} {py pos : Pos} {b : Expr} {db : DE} (i : Nat) (hb : PDE X R b db) (hN : X.N[i]? = some y := by rfl) (hv : Vis X.env.scope y := by first | exact Or.inl rfl | exact Or.inr (Or.inl rfl) | exact Or.inr (Or.inr rfl)) (hd : (y == ("__debug__" : Str)) = false := by decide)
    (hcd : (y == ("__classdict__" : Str)) = false := by decide) (hs : PlainIx b := by intro _ _; rfl) : PDE X R (.Subscript (.Name y py) b pos) (dIxO i db) := by
  refine ⟨pe_imp (pe_ix ix_list (pe_var hN hv hd hcd) hb.pe hs) fun σ H Q ⟨Γ, D, r, q⟩ => ?_, fun Γ W W' m h => ?_⟩
  · unfold dIxO at q
    split at q
    · rename_i fs0 e0
      obtain ⟨c, xs0, o1, o2, o3, o4, o5⟩ := r.own i fs0 e0
      refine ⟨.ref c, o1, goE r hb.mono q fun n Γ1 w H1 D1 h1 r1 s1 q1 => ?_⟩
      split at h1
      · rename_i j fs e1
        cases q1
        obtain ⟨c', xs, p1, p2, p3, p4, p5⟩ := r1.own i fs e1
        rw [o1] at p1
        obtain rfl : c = c' := by cases p1; rfl
        obtain ⟨z, ez, qz⟩ := h1
        obtain ⟨v, e2, q2⟩ := at_dp p4 ez
        exact ⟨c, xs, j, v, rfl, rfl, SqL.of p2, e2, qz v H1 D1 r1 s1 q2⟩
      · exact h1.elim
    · rename_i fs0 e0
      obtain ⟨c, xs0, o0, o1, o2, o3, o4⟩ := r.arg i fs0 e0
      refine ⟨.ref c, o1, goE r hb.mono q fun n Γ1 w H1 D1 h1 r1 s1 q1 => ?_⟩
      split at h1
      · rename_i j fs e1
        cases q1
        obtain ⟨c', xs, p0, p1, p2, p3, p4⟩ := r1.arg i fs e1
        rw [o1] at p1
        obtain rfl : c = c' := by cases p1; rfl
        obtain ⟨z, ez, qz⟩ := h1
        obtain ⟨v, e2, q2⟩ := at_dp p4 ez
        exact ⟨c, xs, j, v, rfl, rfl, SqL.of p2, e2, qz v H1 D1 r1 s1 q2⟩
      · exact h1.elim
    · exact q.elim
  · unfold dIxO at h ⊢
    split at h
    · refine hb.mono Γ _ _ (fun n Γ1 q => ?_) h
      split at q
      · obtain ⟨z, e, q⟩ := q; exact ⟨z, e, m _ _ q⟩
      · exact q
    · refine hb.mono Γ _ _ (fun n Γ1 q => ?_) h
      split at q
      · obtain ⟨z, e, q⟩ := q; exact ⟨z, e, m _ _ q⟩
      · exact q
    · exact h
def dLenO (i : Nat) : DE := fun Γ Q => match Γ[i]? with
  | some (some (Ent.own ds)) => Q (.int ds.length) Γ
  | some (some (Ent.arg ds)) => Q (.int ds.length) Γ
  | _ => False
theorem pde_lenO {y : Str} {py p pos : Pos} (i : Nat) (hm : X.mg "len" = none) (hN : X.N[i]? = some y := by rfl) (hv : Vis X.env.scope y := by first | exact Or.inl rfl | exact Or.inr (Or.inl rfl) | exact Or.inr (Or.inr rfl)) (hd : (y == ("__debug__" : Str)) = false := by decide)
    (hcd : (y == ("__classdict__" : Str)) = false := by decide) (hg : Gl X "len" := by rfl) (he : starEach [.Name y py] X.env = (false, eval (.Name y py) X.env) :: starEach [] X.env := by rfl) (hpl : (backTo pos (starEach [] X.env)).any (·.1) = false := by rfl) :
    PDE X R (.Call (.Name "len" p) [.Name y py] [] pos) (dLenO i) := by
  refine ⟨pe_imp (pe_callB call_len_seq hg hm PySem.boot_len (pa_cons (pe_var hN hv hd hcd) pa_nil he) (by decide) (by decide) he hpl) fun σ H Q ⟨Γ, D, r, q⟩ => ?_, fun Γ W W' m h => ?_⟩
  · unfold dLenO at q
    split at q
    · rename_i fs e0
      obtain ⟨b, xs, o1, o2, o3, o4, o5⟩ := r.own i fs e0
      exact ⟨.ref b, o1, b, xs, rfl, .inl (SqL.of o2), by rw [dpAll_len o4]; exact q _ H D r Step.refl (.int _)⟩
    · rename_i fs e0
      obtain ⟨b, xs, o0, o1, o2, o3, o4⟩ := r.arg i fs e0
      exact ⟨.ref b, o1, b, xs, rfl, .inl (SqL.of o2), by rw [dpAll_len o4]; exact q _ H D r Step.refl (.int _)⟩
    · exact q.elim
  · unfold dLenO at h ⊢
    split at h
    · exact m _ _ h
    · exact m _ _ h
    · exact h
end
end DL

set_option Elab.async false
set_option linter.all false
set_option maxRecDepth 100000
set_option maxHeartbeats 1000000
namespace DL
open PySem PySem.Spec PyProof.Rows L2
section
variable {X : Cx} {R : Root} {K : PySem.W.Frag} {σ : L2.St} {H D : Hp} {Γ : DEnv}


def cutD (ds : List PyData) (lo hi : Option Int) : List PyData := (ds.drop (HT.sIx ds.length 0 lo)).take (HT.sIx ds.length ds.length hi - HT.sIx ds.length 0 lo)
theorem cut_dp {xs : List V} {ds : List PyData} {lo hi : Option Int} (h : DpAll K D xs ds) : DpAll K D (cutV xs lo hi) (cutD ds lo hi) := by
  unfold cutV cutD
  rw [dpAll_len h]
  exact dpAll_take _ (dpAll_drop _ h)
def SlD : PyData → Option Int → Option Int → (PyData → Prop) → Prop := fun d lo hi Q => match d with
  | .list ds => Q (.list (cutD ds lo hi))
  | .tuple ds => Q (.tuple (cutD ds lo hi))
  | .str x => x.length ≤ 1000000 ∧ Q (.str (cutS x lo hi))
  | _ => False
theorem slD_mono {d : PyData} {lo hi : Option Int} {W W' : PyData → Prop} (m : ∀ z, W z → W' z) (h : SlD d lo hi W) : SlD d lo hi W' := by
  unfold SlD at h ⊢
  split at h
  · exact m _ h
  · exact m _ h
  · exact ⟨h.1, m _ h.2⟩
  · exact h
def rSlAny (K : PySem.W.Frag) : V → Option Int → Option Int → Hp → VK → Prop := fun x lo hi H Q => rSlL K x lo hi H Q ∨ rSlA K x lo hi H Q ∨ rSlS x lo hi H Q
theorem sl_any : SlR X (rSlAny X.K) := sl_list.or (sl_tupA.or sl_str)
theorem cutV_whole {ds : List PyData} {lo hi : Option Int} (h : HT.sIx ds.length 0 lo = 0 ∧ HT.sIx ds.length ds.length hi = ds.length) : cutD ds lo hi = ds := by
  unfold cutD
  rw [h.1, h.2, List.drop_zero, Nat.sub_zero, List.take_length]
theorem slAny_ok {x : V} {d : PyData} {lo hi : Option Int} {Q : VK} (u : Sub D H) (hx : Dp K D x d) (h : SlD d lo hi fun z => ∀ v H' D', Grow D H D' H' → Dp K D' v z → Q v H') : rSlAny K x lo hi H Q := by
  unfold SlD at h
  split at h
  · cases hx with
    | lst s a =>
      rename_i ds a' xs
      refine .inl ⟨_, _, rfl, sqL_mono u s, fun p hp => ?_⟩
      have g := Grow.upd (o := .lst (cutV xs lo hi)) u hp
      exact h _ _ _ g (.lst (SqX.of upd_same) (cut_dp (dpAll_mono g.d a)))
  · cases hx with
    | tup s a =>
      rename_i ds a' xs
      refine .inr (.inl ⟨_, _, rfl, sqT_mono u s, fun w => ?_, fun w p hp => ?_⟩)
      · rw [dpAll_len a] at w
        have q := h (.ref a') H D (Grow.refl u)
        rw [cutV_whole w] at q
        exact q (.tup s a)
      · have g := Grow.upd (o := .tup (cutV xs lo hi)) u hp
        exact h _ _ _ g (.tup (SqT.of upd_same) (cut_dp (dpAll_mono g.d a)))
  · cases hx
    exact .inr (.inr ⟨_, rfl, szM h.1, str_out u h.2⟩)
  · exact h.elim
abbrev DO := DEnv → (Option Int → DEnv → Prop) → Prop
def liftO (K : PySem.W.Frag) (R : Root) (o : DO) : TO := fun σ H Q => ∃ Γ D, Rep K R σ H Γ D ∧ o Γ fun i Γ' => ∀ H' D', Rep K R σ H' Γ' D' → Step σ Γ D H Γ' D' H' → Q i H'
structure PDO (X : Cx) (R : Root) (e : Option Expr) (o : DO) : Prop where
  po : PO X e (liftO X.K R o)
  mono : MonoK o
def dNo : DO := fun Γ Q => Q none Γ
def dYesO (a : DE) : DO := fun Γ Q => a Γ fun d Γ1 => match d with | .int i => Q (some i) Γ1 | _ => False
theorem po_imp {e : Option Expr} {t u : TO} (h : PO X e t) (i : ∀ σ H Q, u σ H Q → t σ H Q) : PO X e u := ⟨fun pins s σ H Q I q => h.run pins s σ H Q I (i σ H Q q)⟩
theorem pdo_none : PDO X R none dNo := ⟨po_imp po_none fun σ H Q ⟨Γ, D, r, q⟩ => q H D r Step.refl, fun Γ W W' m h => m _ _ h⟩
theorem pdo_some {e : Expr} {a : DE} (h : PDE X R e a) : PDO X R (some e) (dYesO a) := by
  refine ⟨po_imp (po_some h.pe) fun σ H Q ⟨Γ, D, r, q⟩ => ?_, fun Γ W W' m q => h.mono Γ _ _ (fun d Γ1 z => by cases d <;> first | exact m _ _ z | exact z) q⟩
  refine goE r h.mono q fun d Γ1 v H1 D1 h1 r1 s1 q1 => ?_
  cases q1 with
  | int i => exact ⟨i, rfl, h1 H1 D1 r1 s1⟩
  | non => exact h1.elim
  | bl _ => exact h1.elim
  | str _ => exact h1.elim
  | lst _ _ => exact h1.elim
  | tup _ _ => exact h1.elim
def dSlice (a : DE) (l h : DO) : DE := fun Γ Q => a Γ fun d Γ1 => l Γ1 fun i Γ2 => h Γ2 fun j Γ3 => SlD d i j fun z => Q z Γ3
theorem pde_slice {e : Expr} {lo hi : Option Expr} {p2 pos : Pos} {a : DE} {l h : DO} (he : PDE X R e a) (hl : PDO X R lo l) (hh : PDO X R hi h) : PDE X R (.Subscript e (.Slice lo hi none p2) pos) (dSlice a l h) := by
  refine ⟨pe_imp (pe_slice sl_any he.pe hl.po hh.po) fun σ H Q ⟨Γ, D, r, q⟩ => ?_, fun Γ W W' m q => he.mono Γ _ _ (fun d Γ1 q1 => hl.mono Γ1 _ _ (fun i Γ2 q2 => hh.mono Γ2 _ _ (fun j Γ3 q3 => slD_mono (fun z w => m z Γ3 w) q3) q2) q1) q⟩
  refine goE r he.mono q fun d Γ1 v H1 D1 h1 r1 s1 q1 => ?_
  refine ⟨Γ1, D1, r1, hl.mono Γ1 _ _ (fun i Γ2 h2 H2 D2 r2 s2 => ⟨Γ2, D2, r2, hh.mono Γ2 _ _ (fun j Γ3 h3 H3 D3 r3 s3 => ?_) h2⟩) h1⟩
  exact slAny_ok r3.sub (dp_mono (s2.d.trans s3.d) q1) (slD_mono (fun z w v' H' D' g dp => w v' H' D' (r3.grow g) ((s1.trans (s2.trans s3)).trans g.step) dp) h3)


inductive Ty5 where | int | bool | str | tuple | list
def Ty5.n : Ty5 → String | .int => "int" | .bool => "bool" | .str => "str" | .tuple => "tuple" | .list => "list"
def isTy : Ty5 → PyData → Bool
  | .int, .int _ => true | .int, .bool _ => true
  | .bool, .bool _ => true
  | .str, .str _ => true
  | .tuple, .tuple _ => true
  | .list, .list _ => true
  | _, _ => false
def tyN : PyData → String | .none => "NoneType" | .bool _ => "bool" | .int _ => "int" | .str _ => "str" | .list _ => "list" | .tuple _ => "tuple" | .dict _ => "dict"
theorem kit_non (T : Ty5) : kitB "NoneType" T.n = some false := by cases T <;> decide +kernel
theorem kit_bool (T : Ty5) : kitB "bool" T.n = some (isTy T (.bool true)) := by cases T <;> decide +kernel
theorem kit_int (T : Ty5) : kitB "int" T.n = some (isTy T (.int 0)) := by cases T <;> decide +kernel
theorem kit_str (T : Ty5) : kitB "str" T.n = some (isTy T (.str Str.empty)) := by cases T <;> decide +kernel
theorem kit_list (T : Ty5) : kitB "list" T.n = some (isTy T (.list [])) := by cases T <;> decide +kernel
theorem kit_tuple (T : Ty5) : kitB "tuple" T.n = some (isTy T (.tuple [])) := by cases T <;> decide +kernel
theorem tyx_l {a : Addr} {xs : List V} (h : SqL K H a xs) : TyX K H (.ref a) (.type "list") := by
  rcases h with (h | ⟨o, h⟩) | ⟨o, its, n, h, c, _⟩
  · exact .base (.lst h)
  · exact .base (.frz h)
  · exact .kList h c
theorem tyx_t {a : Addr} {xs : List V} (h : SqT K H a xs) : TyX K H (.ref a) (.type "tuple") := by
  rcases h with (h | ⟨o, h⟩) | ⟨o, its, n, h, c, _⟩
  · exact .base (.tup h)
  · exact .fTuple h
  · exact .kTuple h c
theorem isi_dp {x : V} {d : PyData} (h : Dp K H x d) (T : Ty5) : ∃ t, TyX K H x t ∧ PySem.W.kitOne K t (.type T.n) = some (isTy T d) := by
  cases h with
  | non => exact ⟨_, .base .non, by rw [kit_ty (kit_non T)]; cases T <;> rfl⟩
  | bl b => exact ⟨_, .base (.bl b), by rw [kit_ty (kit_bool T)]; cases T <;> rfl⟩
  | int i => exact ⟨_, .base (.int i), by rw [kit_ty (kit_int T)]; cases T <;> rfl⟩
  | str x => exact ⟨_, .base (.str x), by rw [kit_ty (kit_str T)]; cases T <;> rfl⟩
  | lst s a => exact ⟨_, tyx_l s.l, by rw [kit_ty (kit_list T)]; cases T <;> rfl⟩
  | tup s a => exact ⟨_, tyx_t s, by rw [kit_ty (kit_tuple T)]; cases T <;> rfl⟩
def dIsi (T : Ty5) (a : DE) : DE := fun Γ Q => a Γ fun d Γ1 => Q (.bool (isTy T d)) Γ1
theorem dIsi_mono {T : Ty5} {a : DE} (ma : MonoK a) : MonoK (dIsi T a) := fun Γ W W' m h => ma Γ _ _ (fun d Γ1 q => m _ _ q) h
theorem boot_ty (T : Ty5) : bootBuiltins (Str.ofString T.n) = some (.type T.n) := by cases T <;> decide +kernel
theorem pde_isi {e : Expr} {p p2 pos : Pos} {y : Str} {a : DE} (T : Ty5) (hy : y = Str.ofString T.n) (he : PDE X R e a) (hm : X.mg "isinstance" = none) (hmT : X.mg y = none) (hg : Gl X "isinstance" := by rfl) (hgT : Gl X y := by rfl)
    (hs1 : starEach [e, .Name y p2] X.env = (false, eval e X.env) :: starEach [.Name y p2] X.env := by rfl) (hs2 : starEach [.Name y p2] X.env = (false, eval (.Name y p2) X.env) :: starEach [] X.env := by rfl) (hpl : (backTo pos (starEach [.Name y p2] X.env)).any (·.1) = false := by rfl)
    (hn : y ≠ "__name__" := by decide) (hd : (y == ("__debug__" : Str)) = false := by decide) : PDE X R (.Call (.Name "isinstance" p) [e, .Name y p2] [] pos) (dIsi T a) := by
  refine ⟨pe_imp (pe_callB call_isi hg hm (by decide +kernel) (pa_cons he.pe (pa_cons (pe_bltn (v := .ty T.n) hgT hmT (by rw [hy]; exact boot_ty T) rfl hn hd) pa_nil hs2) hs1) (by decide) (by decide) hs1 hpl) fun σ H Q ⟨Γ, D, r, q⟩ => ?_, dIsi_mono he.mono⟩
  refine goE r he.mono q fun d Γ1 v H1 D1 h1 r1 s1 q1 => ?_
  obtain ⟨t, t1, t2⟩ := isi_dp (dp_mono (fun a o h => r1.sub a o h) q1) T
  exact ⟨v, .ty T.n, t, .type T.n, _, rfl, .ty T.n, t1, t2, h1 _ H1 D1 r1 s1 (.bl _)⟩
def dIsi2 (T U : Ty5) (a : DE) : DE := fun Γ Q => a Γ fun d Γ1 => Q (.bool (isTy T d || isTy U d)) Γ1
theorem pde_isi2 {e : Expr} {p p2 p3 p4 pos : Pos} {k : Nat} {y z : Str} {a : DE} (T U : Ty5) (hy : y = Str.ofString T.n) (hz : z = Str.ofString U.n) (he : PDE X R e a) (hm : X.mg "isinstance" = none) (hmT : X.mg y = none) (hmU : X.mg z = none) (hg : Gl X "isinstance" := by rfl) (hgT : Gl X y := by rfl) (hgU : Gl X z := by rfl)
    (hs1 : starEach [e, .Tuple [.Name y p2, .Name z p3] k p4] X.env = (false, eval e X.env) :: starEach [.Tuple [.Name y p2, .Name z p3] k p4] X.env := by rfl) (hpl : (backTo pos (starEach [.Tuple [.Name y p2, .Name z p3] k p4] X.env)).any (·.1) = false := by rfl)
    (hs2 : starEach [.Tuple [.Name y p2, .Name z p3] k p4] X.env = (false, eval (.Tuple [.Name y p2, .Name z p3] k p4) X.env) :: starEach [] X.env := by rfl) (hs3 : starEach [.Name y p2, .Name z p3] X.env = (false, eval (.Name y p2) X.env) :: starEach [.Name z p3] X.env := by rfl) (hs4 : starEach [.Name z p3] X.env = (false, eval (.Name z p3) X.env) :: starEach [] X.env := by rfl)
    (hn : y ≠ "__name__" := by decide) (hd : (y == ("__debug__" : Str)) = false := by decide) (hn2 : z ≠ "__name__" := by decide) (hd2 : (z == ("__debug__" : Str)) = false := by decide) : PDE X R (.Call (.Name "isinstance" p) [e, .Tuple [.Name y p2, .Name z p3] k p4] [] pos) (dIsi2 T U a) := by
  refine ⟨pe_imp (pe_callB call_isiT hg hm (by decide +kernel) (pa_cons he.pe (pa_cons (pe_tup (pa_cons (pe_bltn (v := .ty T.n) hgT hmT (by rw [hy]; exact boot_ty T) rfl hn hd) (pa_cons (pe_bltn (v := .ty U.n) hgU hmU (by rw [hz]; exact boot_ty U) rfl hn2 hd2) pa_nil hs4) hs3)) pa_nil hs2) hs1) (by decide) (by decide) hs1 hpl) fun σ H Q ⟨Γ, D, r, q⟩ => ?_, fun Γ W W' m h => he.mono Γ _ _ (fun d Γ1 q => m _ _ q) h⟩
  refine goE r he.mono q fun d Γ1 v H1 D1 h1 r1 s1 q1 => ?_
  refine ⟨by show 2 ≤ sizeLine; decide, fun tp htp => ?_⟩
  have g := Grow.tmp (o := .tup [.ty T.n, .ty U.n]) r1.sub htp
  have dp : Dp X.K (L2.upd H1 tp (.tup [.ty T.n, .ty U.n])) v d := dp_mono (fun a o h => g.sub a o h) q1
  obtain ⟨t, t1, t2⟩ := isi_dp dp T
  obtain ⟨t', t1', t2'⟩ := isi_dp dp U
  have ett : ∀ {x : V} {d : PyData} {H : Hp}, Dp X.K H x d → ∃ w : Value, ∀ T : Ty5, TyX X.K H x w ∧ PySem.W.kitOne X.K w (.type T.n) = some (isTy T d) := fun h => by
    cases h with
    | non => exact ⟨.type "NoneType", fun T => ⟨.base .non, by rw [kit_ty (kit_non T)]; cases T <;> rfl⟩⟩
    | bl b => exact ⟨.type "bool", fun T => ⟨.base (.bl b), by rw [kit_ty (kit_bool T)]; cases T <;> rfl⟩⟩
    | int i => exact ⟨.type "int", fun T => ⟨.base (.int i), by rw [kit_ty (kit_int T)]; cases T <;> rfl⟩⟩
    | str x => exact ⟨.type "str", fun T => ⟨.base (.str x), by rw [kit_ty (kit_str T)]; cases T <;> rfl⟩⟩
    | lst s a => exact ⟨.type "list", fun T => ⟨tyx_l s.l, by rw [kit_ty (kit_list T)]; cases T <;> rfl⟩⟩
    | tup s a => exact ⟨.type "tuple", fun T => ⟨tyx_t s, by rw [kit_ty (kit_tuple T)]; cases T <;> rfl⟩⟩
  obtain ⟨w, hw⟩ := ett dp
  refine ⟨v, tp, [.ty T.n, .ty U.n], w, [.type T.n, .type U.n], isTy T d || isTy U d, rfl, upd_same, .cons (.ty _) (.cons (.ty _) .nil), (hw T).1, ?_, h1 _ _ D1 (r1.grow g) (s1.trans g.step) (.bl _)⟩
  refine kitAny_cons (hw T).2 (fun e => ?_) (fun e => by rw [e]; rfl)
  rw [e, Bool.false_or]
  refine kitAny_cons (hw U).2 (fun e => ?_) (fun e => e)
  rw [e]
  rfl


def cLen : PSpec := fun ds Q => match ds with | [.list es] => Q (.int es.length) | [.tuple es] => Q (.int es.length) | [.str x] => x.length ≤ 1000000 ∧ Q (.int x.length) | _ => False
theorem cLen_mono : MonoC cLen := fun ds W W' m h => by
  unfold cLen at h ⊢
  split at h
  · exact m _ h
  · exact m _ h
  · exact ⟨h.1, m _ h.2⟩
  · exact h
theorem cLen_ok : CallD K (fun xs H Q => (∃ p ys, xs = [.ref p] ∧ (SqL K H p ys ∨ SqT K H p ys) ∧ Q (.int ys.length) H) ∨ ∃ z, xs = [.str z] ∧ z.length ≤ sizeLine ∧ Q (.int z.length) H) cLen := fun D H xs ds Q u hd h => by
  unfold cLen at h
  split at h
  · cases hd with
    | cons a b =>
      cases b
      cases a with
      | lst s al => exact .inl ⟨_, _, rfl, .inl (sqL_mono u s), by rw [dpAll_len al]; exact int_out u h⟩
  · cases hd with
    | cons a b =>
      cases b
      cases a with
      | tup s al => exact .inl ⟨_, _, rfl, .inr (sqT_mono u s), by rw [dpAll_len al]; exact int_out u h⟩
  · cases hd with
    | cons a b =>
      cases b
      cases a
      exact .inr ⟨_, rfl, szM h.1, int_out u h.2⟩
  · exact h.elim
theorem pde_len {e : Expr} {p pos : Pos} {a : DE} (ha : PDE X R e a) (hm : X.mg "len" = none) (hg : Gl X "len" := by rfl) (he : starEach [e] X.env = (false, eval e X.env) :: starEach [] X.env := by rfl) (hpl : (backTo pos (starEach [] X.env)).any (·.1) = false := by rfl) :
    PDE X R (.Call (.Name "len" p) [e] [] pos) (dCall cLen (dCons a dNil)) := pde_callB (call_len_seq.or call_len_str) cLen_ok cLen_mono hg hm PySem.boot_len (pda_cons ha pda_nil he) (by decide) (by decide) he hpl
def cAll (f : List Bool → Bool) : PSpec := fun ds Q => ∃ bs : List Bool, ds = [.list (bs.map .bool)] ∧ Q (.bool (f bs))
theorem cAll_mono {f} : MonoC (cAll f) := fun ds W W' m ⟨bs, e, h⟩ => ⟨bs, e, m _ h⟩
theorem cAll_ok : CallD K (rAll K) (cAll fun bs => bs.all id) := fun D H xs ds Q u hd ⟨bs, e, h⟩ => by
  subst e
  cases hd with
  | cons a b =>
    cases b
    cases a with
    | lst s al =>
      have e := dpAll_blsV al
      subst e
      exact ⟨_, bs, rfl, sqL_mono u s, bool_out u h⟩
theorem cAny_ok : CallD K (rAny K) (cAll fun bs => bs.any id) := fun D H xs ds Q u hd ⟨bs, e, h⟩ => by
  subst e
  cases hd with
  | cons a b =>
    cases b
    cases a with
    | lst s al =>
      have e := dpAll_blsV al
      subst e
      exact ⟨_, bs, rfl, sqL_mono u s, bool_out u h⟩
theorem pde_all {e : Expr} {p pos : Pos} {a : DE} (hc : X.calm = true) (ha : PDE X R e a) (hm : X.mg "all" = none) (hg : Gl X "all" := by rfl) (he : starEach [e] X.env = (false, eval e X.env) :: starEach [] X.env := by rfl) (hpl : (backTo pos (starEach [] X.env)).any (·.1) = false := by rfl) :
    PDE X R (.Call (.Name "all" p) [e] [] pos) (dCall (cAll fun bs => bs.all id) (dCons a dNil)) := pde_callB (cr_all hc) cAll_ok cAll_mono hg hm (by decide +kernel) (pda_cons ha pda_nil he) (by decide) (by decide) he hpl
theorem pde_any {e : Expr} {p pos : Pos} {a : DE} (hc : X.calm = true) (ha : PDE X R e a) (hm : X.mg "any" = none) (hg : Gl X "any" := by rfl) (he : starEach [e] X.env = (false, eval e X.env) :: starEach [] X.env := by rfl) (hpl : (backTo pos (starEach [] X.env)).any (·.1) = false := by rfl) :
    PDE X R (.Call (.Name "any" p) [e] [] pos) (dCall (cAll fun bs => bs.any id) (dCons a dNil)) := pde_callB (cr_any hc) cAny_ok cAll_mono hg hm (by decide +kernel) (pda_cons ha pda_nil he) (by decide) (by decide) he hpl
def cStr : PSpec := fun ds Q => match ds with | [.int i] => i.natAbs.log2 < 1920 ∧ Q (.str (toString i)) | _ => False
theorem cStr_mono : MonoC cStr := fun ds W W' m h => by
  unfold cStr at h ⊢
  split at h
  · exact ⟨h.1, m _ h.2⟩
  · exact h
theorem cStr_ok : CallD K (fun xs H Q => ∃ i, xs = [.int i] ∧ i.natAbs.log2 < 1920 ∧ Q (.str (toString i)) H) cStr := fun D H xs ds Q u hd h => by
  unfold cStr at h
  split at h
  · cases hd with
    | cons a b =>
      cases b
      cases a
      exact ⟨_, rfl, h.1, str_out u h.2⟩
  · exact h.elim
theorem pde_str {e : Expr} {p pos : Pos} {a : DE} (ha : PDE X R e a) (hm : X.mg "str" = none) (hg : Gl X "str" := by rfl) (he : starEach [e] X.env = (false, eval e X.env) :: starEach [] X.env := by rfl) (hpl : (backTo pos (starEach [] X.env)).any (·.1) = false := by rfl) :
    PDE X R (.Call (.Name "str" p) [e] [] pos) (dCall cStr (dCons a dNil)) := pde_callTy call_str_int cStr_ok cStr_mono hg hm (by decide +kernel) (pda_cons ha pda_nil he) (by decide) (by decide) he hpl
def cInt : PSpec := fun ds Q => match ds with | [.int i] => Q (.int i) | [.bool b] => Q (.int (if b then 1 else 0)) | _ => False
theorem cInt_mono : MonoC cInt := fun ds W W' m h => by
  unfold cInt at h ⊢
  split at h
  · exact m _ h
  · exact m _ h
  · exact h
theorem cInt_ok : CallD K (fun xs H Q => (∃ i, xs = [.int i] ∧ Q (.int i) H) ∨ ∃ k, xs = [.bl k] ∧ Q (.int (if k then 1 else 0)) H) cInt := fun D H xs ds Q u hd h => by
  unfold cInt at h
  split at h
  · cases hd with
    | cons a b =>
      cases b
      cases a
      exact .inl ⟨_, rfl, int_out u h⟩
  · cases hd with
    | cons a b =>
      cases b
      cases a
      exact .inr ⟨_, rfl, int_out u h⟩
  · exact h.elim
theorem pde_int1 {e : Expr} {p pos : Pos} {a : DE} (ha : PDE X R e a) (hm : X.mg "int" = none) (hg : Gl X "int" := by rfl) (he : starEach [e] X.env = (false, eval e X.env) :: starEach [] X.env := by rfl) (hpl : (backTo pos (starEach [] X.env)).any (·.1) = false := by rfl) :
    PDE X R (.Call (.Name "int" p) [e] [] pos) (dCall cInt (dCons a dNil)) := pde_callTy call_int1 cInt_ok cInt_mono hg hm (by decide +kernel) (pda_cons ha pda_nil he) (by decide) (by decide) he hpl
def cTuple : PSpec := fun ds Q => match ds with | [.list es] => Q (.tuple es) | [.tuple es] => Q (.tuple es) | _ => False
theorem cTuple_mono : MonoC cTuple := fun ds W W' m h => by
  unfold cTuple at h ⊢
  split at h
  · exact m _ h
  · exact m _ h
  · exact h
theorem cTuple_ok : CallD K (fun xs H Q => ∃ p ys, xs = [.ref p] ∧ ((SqL K H p ys ∧ ∀ l, H l = none → Q (.ref l) (upd H l (.tup ys))) ∨ (SqT K H p ys ∧ Q (.ref p) H))) cTuple := fun D H xs ds Q u hd h => by
  unfold cTuple at h
  split at h
  · cases hd with
    | cons a b =>
      cases b
      cases a with
      | lst s al =>
        rename_i es a' xs'
        refine ⟨_, _, rfl, .inl ⟨sqL_mono u s, fun l hl => ?_⟩⟩
        have g := Grow.upd (o := .tup xs') u hl
        exact h _ _ _ g (.tup (SqT.of upd_same) (dpAll_mono g.d al))
  · cases hd with
    | cons a b =>
      cases b
      cases a with
      | tup s al => exact ⟨_, _, rfl, .inr ⟨sqT_mono u s, h _ H D (Grow.refl u) (.tup s al)⟩⟩
  · exact h.elim
theorem pde_tuple {e : Expr} {p pos : Pos} {a : DE} (ha : PDE X R e a) (hm : X.mg "tuple" = none) (hg : Gl X "tuple" := by rfl) (he : starEach [e] X.env = (false, eval e X.env) :: starEach [] X.env := by rfl) (hpl : (backTo pos (starEach [] X.env)).any (·.1) = false := by rfl) :
    PDE X R (.Call (.Name "tuple" p) [e] [] pos) (dCall cTuple (dCons a dNil)) := pde_callTy call_tuple_of cTuple_ok cTuple_mono hg hm (by decide +kernel) (pda_cons ha pda_nil he) (by decide) (by decide) he hpl
def dListOf (a : DE) : DA := fun Γ Q => a Γ fun d Γ1 => match d with | .list es => Q es Γ1 | .tuple es => Q es Γ1 | _ => False
theorem pdl_list {e : Expr} {p pos : Pos} {a : DE} (ha : PDE X R e a) (hm : X.mg "list" = none) (hg : Gl X "list" := by rfl) (he : starEach [e] X.env = (false, eval e X.env) :: starEach [] X.env := by rfl) (hpl : (backTo pos (starEach [] X.env)).any (·.1) = false := by rfl) :
    PDL X R (.Call (.Name "list" p) [e] [] pos) (dListOf a) := by
  refine ⟨pe_imp (L2.pe_callTy call_list_of hg hm (by decide +kernel) (pa_cons ha.pe pa_nil he) (by decide) (by decide) he hpl) fun σ H Q ⟨Γ, D, r, q⟩ => ?_, fun Γ W W' m h => ha.mono Γ _ _ (fun d Γ1 q => by cases d <;> first | exact m _ _ q | exact q) h⟩
  refine goE r ha.mono q fun d Γ1 v H1 D1 h1 r1 s1 q1 => ?_
  cases q1 with
  | lst s al =>
    rename_i a' xs' ds'
    refine ⟨_, _, rfl, .inl (sqL_mono r1.sub s), fun l hl => ?_⟩
    have g := Grow.tmp (o := .lst xs') r1.sub hl
    exact h1 l _ _ D1 (r1.grow g) (s1.trans g.step) (step_free s1 hl) upd_same (d_none r1.sub hl) (mine_no r1 hl) al
  | tup s al =>
    rename_i a' xs' ds'
    refine ⟨_, _, rfl, .inr (sqT_mono r1.sub s), fun l hl => ?_⟩
    have g := Grow.tmp (o := .lst xs') r1.sub hl
    exact h1 l _ _ D1 (r1.grow g) (s1.trans g.step) (step_free s1 hl) upd_same (d_none r1.sub hl) (mine_no r1 hl) al
  | non => exact h1.elim
  | bl _ => exact h1.elim
  | int _ => exact h1.elim
  | str _ => exact h1.elim
def rCatL (K : PySem.W.Frag) : R2 := fun x y H Q => ∃ a b xs ys, x = .ref a ∧ y = .ref b ∧ SqX K H a xs ∧ SqX K H b ys ∧ xs.length + ys.length ≤ sizeLine ∧ ∀ p, H p = none → Q (.ref p) (upd H p (.lst (xs ++ ys)))
theorem plain_x {X : Cx} {pins : List (Addr × Obj)} {σ : L2.St} {H : Hp} {s : Shared} {a : Addr} {xs : List V} (I : L2.Inv X pins σ H s) (h : SqX X.K H a xs) : ∃ (its : List Value) (n : Nat), Vals xs its ∧ s.heap.get? a = some { cls := .type "list", data := .seq its.toArray n } := by
  rcases h with h | ⟨its, n, k, _, v⟩
  · obtain ⟨_, its, n, v, e⟩ := h.ok I.hok
    exact ⟨its, n, v, e⟩
  · exact ⟨its, n, v, I.kIn a _ k⟩
theorem op_catL : OpR X (binaryOp .Add) (rCatL X.K) := by
  intro pins s σ H x y v u Q I rx ry h -- k01
  obtain ⟨a, b, xs, ys, rfl, rfl, ha, hb, hz, q⟩ := h
  cases rx
  cases ry
  obtain ⟨us, n1, ra, g1⟩ := plain_x I ha
  obtain ⟨ws, n2, rb, g2⟩ := plain_x I hb
  have ea := ra.length
  have eb := rb.length
  refine PySem.P.add_list g1 g2 ?_ (by rw [List.size_toArray, List.size_toArray]; omega)
  rw [show us.toArray ++ ws.toArray = (us ++ ws).toArray by simp]
  exact ⟨.ref _, _, I.lnew (t' := s.toks) (ra.append rb) (by rw [List.length_append]; omega), rfl, q _ I.fresh⟩
def dCat (a b : DE) : DA := fun Γ Q => a Γ fun d Γ1 => b Γ1 fun e Γ2 => match d, e with | .list xs, .list ys => xs.length + ys.length ≤ 1000000 ∧ Q (xs ++ ys) Γ2 | _, _ => False
theorem pdl_cat {a b : Expr} {pos : Pos} {da db : DE} (ha : PDE X R a da) (hb : PDE X R b db) : PDL X R (.BinOp a .Add b pos) (dCat da db) := by
  refine ⟨pe_imp (pe_op op_catL ha.pe hb.pe) fun σ H Q ⟨Γ, D, r, q⟩ => ?_, fun Γ W W' m h => ha.mono Γ _ _ (fun d Γ1 q => hb.mono Γ1 _ _ (fun e Γ2 q2 => ?_) q) h⟩
  · refine goE r ha.mono q fun d Γ1 v H1 D1 h1 r1 s1 q1 => goE r1 hb.mono h1 fun e Γ2 w H2 D2 h2 r2 s2 q2 => ?_
    split at h2
    · have q1' := dp_mono s2.d q1
      cases q1' with
      | lst s al =>
        cases q2 with
        | lst s' al' =>
          refine ⟨_, _, _, _, rfl, rfl, sqX_mono r2.sub s, sqX_mono r2.sub s', by rw [dpAll_len al, dpAll_len al']; exact szM h2.1, fun p hp => ?_⟩
          exact h2.2 p _ _ D2 (r2.grow (Grow.tmp r2.sub hp)) ((s1.trans s2).trans (Grow.tmp r2.sub hp).step) (step_free (s1.trans s2) hp) upd_same (d_none r2.sub hp) (mine_no r2 hp) (dpAll_app al al')
    · exact h2.elim
  · split at q2
    · exact ⟨q2.1, m _ _ q2.2⟩
    · exact q2
def dJoin (z : Str) (b : DE) : DE := fun Γ Q => b Γ fun e Γ2 => ∃ ys : List Str, (e = .list (ys.map .str) ∨ e = .tuple (ys.map .str)) ∧ (ys.map (·.length)).sum + ys.length * z.length ≤ 16777216 ∧ Q (.str (Txt.join z ys)) Γ2
theorem pde_join {z : Str} {k : Nat} {e : Expr} {p0 apos pos : Pos} {b : DE} (he : PDE X R e b) (hs : starEach [e] X.env = [(false, eval e X.env)] := by rfl) (hbase : attributeBase (.Constant (.str z) k p0) "join" X.env (eval (.Constant (.str z) k p0) X.env) = eval (.Constant (.str z) k p0) X.env := by rfl) (hline : (apos.endLine == pos.line) = true := by rfl) :
    PDE X R (.Call (.Attribute (.Constant (.str z) k p0) "join" apos) [e] [] pos) (dJoin z b) := by
  refine ⟨pe_imp (pe_join pe_str he.pe hs hbase hline) fun σ H Q ⟨Γ, D, r, q⟩ => ?_, fun Γ W W' m h => he.mono Γ _ _ (fun e Γ2 ⟨ys, e2, e3, q2⟩ => ⟨ys, e2, e3, m _ _ q2⟩) h⟩
  refine ⟨⟨z, rfl⟩, goE r he.mono q fun e Γ2 w H2 D2 h2 r2 s2 q2 => ?_⟩
  obtain ⟨ys, e2, e3, q3⟩ := h2
  rcases e2 with e2 | e2
  · subst e2
    cases q2 with
    | lst s al =>
      have e := dpAll_strsV al
      subst e
      exact ⟨z, _, ys, rfl, rfl, .inl (sqL_mono r2.sub s), e3, q3 _ H2 D2 r2 s2 (.str _)⟩
  · subst e2
    cases q2 with
    | tup s al =>
      have e := dpAll_strsV al
      subst e
      exact ⟨z, _, ys, rfl, rfl, .inr (sqT_mono r2.sub s), e3, q3 _ H2 D2 r2 s2 (.str _)⟩
def dFmt (a : DE) : DE := fun Γ Q => a Γ fun d Γ1 => match d with | .str y => y.length ≤ 1000000 ∧ Q (.str y) Γ1 | .int i => i.natAbs.log2 < 1920 ∧ Q (.str (toString i)) Γ1 | _ => False
theorem pde_fmt {e : Expr} {pos : Pos} {a : DE} (h : PDE X R e a) : PDE X R (.FormattedValue e (-1) none pos) (dFmt a) := by
  refine ⟨pe_imp (pe_fmt h.pe) fun σ H Q ⟨Γ, D, r, q⟩ => ?_, fun Γ W W' m q => h.mono Γ _ _ (fun d Γ1 z => by cases d <;> first | exact ⟨z.1, m _ _ z.2⟩ | exact z) q⟩
  refine goE r h.mono q fun d Γ1 v H1 D1 h1 r1 s1 q1 => ?_
  cases q1 with
  | str y => exact .inl ⟨y, rfl, szM h1.1, h1.2 _ H1 D1 r1 s1 (.str _)⟩
  | int i => exact .inr ⟨i, rfl, h1.1, h1.2 _ H1 D1 r1 s1 (.str _)⟩
  | non => exact h1.elim
  | bl _ => exact h1.elim
  | lst _ _ => exact h1.elim
  | tup _ _ => exact h1.elim
inductive PDJ (X : Cx) (R : Root) : List Expr → List DE → Prop where
  | nil : PDJ X R [] []
  | cons {e : Expr} {t : DE} {es : List Expr} {ts : List DE} (h : PDE X R e t) (r : PDJ X R es ts) : PDJ X R (e :: es) (t :: ts)
def dJs : List DE → Str → DEnv → (Str → DEnv → Prop) → Prop
  | [], acc, Γ, Q => Q acc Γ
  | t :: ts, acc, Γ, Q => t Γ fun d Γ1 => match d with | .str y => (acc ++ y).length ≤ 1000000 ∧ dJs ts (acc ++ y) Γ1 Q | _ => False
theorem pdj_pj {es : List Expr} {ts : List DE} (h : PDJ X R es ts) : PJ X es (ts.map (liftE X.K R)) := by
  induction h with
  | nil => exact .nil
  | cons h r ih => exact .cons h.pe ih
theorem pdj_mono {es : List Expr} {ts : List DE} (h : PDJ X R es ts) : ∀ (acc : Str) Γ (W W' : Str → DEnv → Prop), (∀ x Γ, W x Γ → W' x Γ) → dJs ts acc Γ W → dJs ts acc Γ W' := by
  induction h with
  | nil => exact fun acc Γ W W' m q => m _ _ q
  | cons h r ih => exact fun acc Γ W W' m q => h.mono Γ _ _ (fun d Γ1 z => by cases d <;> first | exact ⟨z.1, ih _ Γ1 W W' m z.2⟩ | exact z) q
theorem pdj_run {es : List Expr} {ts : List DE} (h : PDJ X R es ts) : ∀ (acc : Str) {σ : L2.St} {H D : Hp} {Γ : DEnv} (W : Str → DEnv → Prop) (Q : Str → Hp → Prop), Rep X.K R σ H Γ D → dJs ts acc Γ W →
    (∀ out Γ' H' D', W out Γ' → Rep X.K R σ H' Γ' D' → Step σ Γ D H Γ' D' H' → Q out H') → tJs (ts.map (liftE X.K R)) acc σ H Q := by
  induction h with
  | nil => exact fun acc σ H D Γ W Q r q k => k acc Γ H D q r Step.refl
  | cons h r ih =>
    intro acc σ H D Γ W Q rp q k
    refine goE rp h.mono q fun d Γ1 v H1 D1 h1 r1 s1 q1 => ?_
    cases q1 with
    | str y => exact ⟨y, rfl, szM h1.1, ih (acc ++ y) W Q r1 h1.2 fun out Γ' H' D' w r' s' => k out Γ' H' D' w r' (s1.trans s')⟩
    | non => exact h1.elim
    | bl _ => exact h1.elim
    | int _ => exact h1.elim
    | lst _ _ => exact h1.elim
    | tup _ _ => exact h1.elim
def dJoined (ts : List DE) : DE := fun Γ Q => dJs ts Str.empty Γ fun out Γ1 => Q (.str out) Γ1
theorem pde_joined {v1 v2 : Expr} {rest : List Expr} {ts : List DE} {pos : Pos} (h : PDJ X R (v1 :: v2 :: rest) ts) : PDE X R (.JoinedStr (v1 :: v2 :: rest) pos) (dJoined ts) := by
  refine ⟨pe_imp (pe_joined (pdj_pj h)) fun σ H Q ⟨Γ, D, r, q⟩ => ?_, fun Γ W W' m q => pdj_mono h _ Γ _ _ (fun x Γ1 z => m _ _ z) q⟩
  exact pdj_run h Str.empty _ _ r q fun out Γ' H' D' w r' s' => w _ H' D' r' s' (.str _)
end
end DL

set_option Elab.async false
set_option linter.all false
set_option maxRecDepth 100000

namespace DL
open PySem PySem.Spec PyProof.Rows L2


structure Has (P : Program) (w : World) (K : PySem.W.Frag) (mg : Str → Option Value) (base : Heap) (x : Str) (k : Nat) (ps : List Str) (sp : Sp) : Prop where
  ex : ∃ (f : Addr) (fd : FuncData), FnOk P w K mg base CX0 k f fd ps sp ∧ mg x = some (.ref f) ∧ PySem.W.keepIn K (.ref f) = true ∧ Binds K fd ps []
theorem Has.mono {P : Program} {w : World} {K : PySem.W.Frag} {mg : Str → Option Value} {base : Heap} {x : Str} {j k : Nat} {ps : List Str} {sp : Sp} (h : Has P w K mg base x j ps sp) (l : j ≤ k) : Has P w K mg base x k ps sp := by
  obtain ⟨f, fd, a, b, c, d⟩ := h.ex
  exact ⟨f, fd, a.mono l, b, c, d⟩
theorem Has.imp {P : Program} {w : World} {K : PySem.W.Frag} {mg : Str → Option Value} {base : Heap} {x : Str} {k : Nat} {ps : List Str} {sp sp' : Sp} (h : Has P w K mg base x k ps sp) (i : ∀ vs H Q E, sp' vs H Q E → sp vs H Q E) : Has P w K mg base x k ps sp' := by
  obtain ⟨f, fd, a, b, c, d⟩ := h.ex
  exact ⟨f, fd, a.imp i, b, c, d⟩
def spN (K : PySem.W.Frag) (t : List PyData → (List PyData → Prop) → Prop) : Sp := fun vs H Q _ => ∃ D ds, Sub D H ∧ DpAll K D vs ds ∧
  t ds fun rs => ∀ p xs H' D', Grow D H D' H' → H p = none → H' p = some (.lst xs) → D' p = none → DpAll K D' xs rs → Q (.ref p) H'
abbrev NSpec := List PyData → (List PyData → Prop) → Prop
def MonoN (t : NSpec) : Prop := ∀ ds (W W' : List PyData → Prop), (∀ z, W z → W' z) → t ds W → t ds W'
section
variable {X : Cx} {R : Root} {K : PySem.W.Frag} {σ : L2.St} {H D : Hp} {Γ : DEnv}
theorem pde_callH {k : Nat} {ps : List Str} {t : PSpec} {x : Str} {p pos : Pos} {e : Expr} {es : List Expr} {a : DA} (mt : MonoP t) (h : Has X.prog X.w X.K X.mg X.base x k ps (spP X.K t)) (hr : Room k X.A) (ha : PDA X R (e :: es) a)
    (hg : Gl X x := by rfl) (hdb : (x == ("__debug__" : Str)) = false := by decide) (he : starEach (e :: es) X.env = (false, eval e X.env) :: starEach es X.env := by rfl) (hpl : (backTo pos (starEach es X.env)).any (·.1) = false := by rfl) : PDE X R (.Call (.Name x p) (e :: es) [] pos) (dCallP t a) := by
  obtain ⟨f, fd, F, hm, hk, hb⟩ := h.ex
  exact DL.pde_call mt F hr hm hk hb pass0 ha hg hdb he hpl
theorem pde_callHF (i : Nat) {k : Nat} {ps : List Str} {t : FSpec} {x y : Str} {py p pos : Pos} {es : List Expr} {a : DA} (mt : MonoF t) (h : Has X.prog X.w X.K X.mg X.base x k ps (spF X.K t)) (hr : Room k X.A) (ha : PDA X R es a)
    (hN : X.N[i]? = some y := by rfl) (hv : Vis X.env.scope y := by first | exact Or.inl rfl | exact Or.inr (Or.inl rfl) | exact Or.inr (Or.inr rfl)) (hd : (y == ("__debug__" : Str)) = false := by decide) (hcd : (y == ("__classdict__" : Str)) = false := by decide)
    (hg : Gl X x := by rfl) (hdb : (x == ("__debug__" : Str)) = false := by decide) (he : starEach (.Name y py :: es) X.env = (false, eval (.Name y py) X.env) :: starEach es X.env := by rfl) (hpl : (backTo pos (starEach es X.env)).any (·.1) = false := by rfl) : PDE X R (.Call (.Name x p) (.Name y py :: es) [] pos) (dCallF i t a) := by
  obtain ⟨f, fd, F, hm, hk, hb⟩ := h.ex
  exact pde_callF i mt F hr hm hk hb pass0 ha hN hv hd hcd hg hdb he hpl
def dCallN (t : NSpec) (a : DA) : DA := fun Γ Q => a Γ fun ds Γ1 => t ds fun rs => Q rs Γ1
theorem dCallN_mono {t : NSpec} {a : DA} (mt : MonoN t) (ma : MonoK a) : MonoK (dCallN t a) := fun Γ W W' m h => ma Γ _ _ (fun ds Γ1 q => mt ds _ _ (fun z w => m z Γ1 w) q) h
theorem mine_old {p : Addr} (r : Rep K R σ H Γ D) (hp : H p = none) : ¬ Mine σ Γ p := fun ⟨i, e1, e2⟩ => by
  rcases e2 with ⟨ds, e2⟩ | ⟨ds, e2⟩
  · obtain ⟨a, xs, q1, q2, _⟩ := r.own i ds e2
    rw [e1] at q1
    cases q1
    rw [hp] at q2; cases q2
  · obtain ⟨a, xs, _, q1, q2, _⟩ := r.arg i ds e2
    rw [e1] at q1
    cases q1
    rw [hp] at q2; cases q2
theorem pdl_callH {k : Nat} {ps : List Str} {t : NSpec} {x : Str} {p pos : Pos} {e : Expr} {es : List Expr} {a : DA} (mt : MonoN t) (h : Has X.prog X.w X.K X.mg X.base x k ps (spN X.K t)) (hr : Room k X.A) (ha : PDA X R (e :: es) a)
    (hg : Gl X x := by rfl) (hdb : (x == ("__debug__" : Str)) = false := by decide) (he : starEach (e :: es) X.env = (false, eval e X.env) :: starEach es X.env := by rfl) (hpl : (backTo pos (starEach es X.env)).any (·.1) = false := by rfl) : PDL X R (.Call (.Name x p) (e :: es) [] pos) (dCallN t a) := by
  obtain ⟨f, fd, F, hm, hk, hb⟩ := h.ex
  refine ⟨pe_imp (L2.pe_call F hr hg hm hk hb .nil pass0 ha.pa hdb he hpl) fun σ H Q ⟨Γ, D, r, q⟩ => ?_, dCallN_mono mt ha.mono⟩
  refine goA r ha.mono q fun ds Γ1 vs H1 D1 h1 r1 s1 q1 => ?_
  rw [List.append_nil]
  refine ⟨D1, ds, r1.sub, q1, mt ds _ _ (fun z w p xs H' D' g n hp hD dp => ?_) h1⟩
  exact w p xs H' D' (r1.grow g) (s1.trans g.step) (step_free s1 n) hp hD (mine_old r1 n) dp
theorem pdl_callH0 {k : Nat} {ps : List Str} {t : NSpec} {x : Str} {p pos : Pos} (mt : MonoN t) (h : Has X.prog X.w X.K X.mg X.base x k ps (spN X.K t)) (hr : Room k X.A)
    (hg : Gl X x := by rfl) (hdb : (x == ("__debug__" : Str)) = false := by decide) : PDL X R (.Call (.Name x p) [] [] pos) (dCallN t dNil) := by
  obtain ⟨f, fd, F, hm, hk, hb⟩ := h.ex
  refine ⟨pe_imp (L2.pe_call0 F hr hg hm hk hb .nil pass0 hdb) fun σ H Q ⟨Γ, D, r, q⟩ => ?_, dCallN_mono mt dNil_mono⟩
  refine ⟨D, [], r.sub, .nil, mt [] _ _ (fun z w p xs H' D' g n hp hD dp => ?_) q⟩
  exact w p xs H' D' (r.grow g) g.step n hp hD (mine_old r n) dp


abbrev NDS := (List PyData → Prop) → DEnv → Prop
structure PDN (X : Cx) (R : Root) (st : List Stmt) (s : NDS) : Prop where
  run : ∃ t : TS, PSs X st t ∧ ∀ (E : Ends) (σ : L2.St) (H : Hp) (Γ : DEnv) (D : Hp) (W : List PyData → Prop), Rep X.K R σ H Γ D → s W Γ →
    (∀ rs σ' Γ' p xs H' D', W rs → Rep X.K R σ' H' Γ' D' → Same D D' → R.H0 p = none → H' p = some (.lst xs) → D' p = none → DpAll X.K D' xs rs → E.rt (.ref p) H') → t E σ H
  mono : ∀ (W W' : List PyData → Prop) Γ, (∀ rs, W rs → W' rs) → s W Γ → s W' Γ
theorem pdn_ret {e : Expr} {pos : Pos} {a : DA} (h : PDL X R e a) : PDN X R [.Return (some e) pos] (fun W Γ => a Γ fun rs _ => W rs) := by
  refine ⟨⟨_, pss_one (ps_ret h.pl), fun E σ H Γ D W r q k => ?_⟩, fun W W' Γ m q => h.mono Γ _ _ (fun rs _ z => m rs z) q⟩
  refine goL r h.mono q fun ds Γ1 p xs H1 D1 h1 r1 s1 hp hp1 hD1 nm q1 => ?_
  exact k ds σ Γ1 p xs H1 D1 h1 r1 s1.d (h0_none r hp) hp1 hD1 q1
theorem pdn_cons {st : Stmt} {rest : List Stmt} {s : DS} {t : NDS} (h : PDS X R st s) (h2 : PDN X R rest t) : PDN X R (st :: rest) (fun W Γ => s { nx := t W, rt := fun _ _ => False } Γ) := by
  obtain ⟨⟨u, hu, k2⟩, m2⟩ := h2
  refine ⟨⟨_, pss_cons h.ps hu, fun E σ H Γ D W r q k => ?_⟩, fun W W' Γ m q => h.mono { nx := t W, rt := fun _ _ => False } { nx := t W', rt := fun _ _ => False } Γ ⟨fun Γ1 z => m2 W W' Γ1 m z, fun _ _ z => z, fun _ z => z, fun _ z => z⟩ q⟩
  refine ⟨Γ, D, r, h.mono { nx := t W, rt := fun _ _ => False } _ Γ ⟨fun Γ1 z σ' H' D' r' sm => ?_, fun _ _ z => z.elim, fun _ z => z.elim, fun _ z => z.elim⟩ q⟩
  exact k2 E σ' H' Γ1 D' W r' z fun rs σ2 Γ2 p xs H2 D2 w r2 s2 a b c d => k rs σ2 Γ2 p xs H2 D2 w r2 (sm.trans s2) a b c d
end
theorem okN {P : Program} {w : World} {K : PySem.W.Frag} {mg : Str → Option Value} {base : Heap} {x qual : Str} {st : Stmt} {f : Addr} {fd : FuncData} {N ps : List Str} {k : Nat} {t : NSpec} (F : Fun K x qual st f fd) (S : FnScope N ps (defScope st)) (len : ∀ ds Q, t ds Q → ds.length = ps.length)
    (hbody : ∀ (cdv : Value) (A : Around) (outer : List Env) (s : Shared) (H : Hp) (E : XK) (R : Root), Room k (A.deeper (envOfC qual (defScope st) s.heap.objs.size f cdv)) →
      ∃ b : NDS, PDN (cxOf CX0 P w K mg base N qual (defScope st) f cdv A outer s H E).nox R (defBody st) b ∧ ∀ ds (W : List PyData → Prop), t ds W → b W (startD N ds)) : FnOk P w K mg base CX0 (k + 1) f fd ps (spN K t) := by
  refine F.ok S (fun vs H Q E h => ?_) (fun cdv A outer s H vs Q E hr h => ?_)
  · obtain ⟨D, ds, _, hd, q⟩ := h
    rw [dpAll_len hd]
    exact len ds _ q
  · obtain ⟨D, ds, u, hd, q⟩ := h
    obtain ⟨b, ⟨⟨t', ht, hk⟩, hm⟩, hq⟩ := hbody cdv A outer s H E ⟨H, D, none⟩ hr
    refine ⟨_, ht, ?_⟩
    refine hk _ _ _ (startD N ds) D _ (rep_start u hd) (hq ds _ q) fun rs σ' Γ' p xs H' D' w r' sm n hp hD dp => ?_
    exact w p xs H' D' ⟨fun b o e => r'.kept b o e (fun z => nomatch z), r'.ext, r'.sub, r'.new⟩ n hp hD dp


structure KTab (K : PySem.W.Frag) (w : World) (d : Addr) (T : Str → Option PyData) : Prop where
  ex : ∃ es n, KDict K w d es n ∧ ∀ z, ∃ r, PySem.W.nsIn K d z = some r ∧ (match T z with
    | none => r = none
    | some y => ∃ u v, r = some u ∧ RelV v u ∧ ∀ D, Dp K D v y)
section
variable {X : Cx} {R : Root} {K : PySem.W.Frag} {σ : L2.St} {H D : Hp} {Γ : DEnv}
def dGetT (T : Str → Option PyData) (a : DE) : DE := fun Γ Q => a Γ fun d Γ1 => match d with | .str z => Q ((T z).getD .none) Γ1 | _ => False
def dInT (neg : Bool) (T : Str → Option PyData) (a : DE) : DE := fun Γ Q => a Γ fun d Γ1 => match d with | .str z => Q (.bool (if neg then !(T z).isSome else (T z).isSome)) Γ1 | _ => False
theorem dGetT_mono {T : Str → Option PyData} {a : DE} (ma : MonoK a) : MonoK (dGetT T a) := fun Γ W W' m h => ma Γ _ _ (fun d Γ1 q => by cases d <;> first | exact m _ _ q | exact q) h
theorem dInT_mono {neg : Bool} {T : Str → Option PyData} {a : DE} (ma : MonoK a) : MonoK (dInT neg T a) := fun Γ W W' m h => ma Γ _ _ (fun d Γ1 q => by cases d <;> first | exact m _ _ q | exact q) h
theorem tab_get {T : Str → Option PyData} {d : Addr} {z : Str} (k : KTab K X.w d T) : ∃ es n r, KDict K X.w d es n ∧ PySem.W.nsIn K d z = some r ∧ r.isSome = (T z).isSome ∧ ∃ v, RelV v (r.getD .none) ∧ ∀ D, Dp K D v ((T z).getD .none) := by
  obtain ⟨es, n, kd, h⟩ := k.ex
  obtain ⟨r, e, q⟩ := h z
  refine ⟨es, n, r, kd, e, ?_⟩
  cases hT : T z with
  | none =>
    rw [hT] at q
    subst q
    exact ⟨rfl, .non, rfl, fun _ => .non⟩
  | some y =>
    rw [hT] at q
    obtain ⟨u, v, e1, rv, dp⟩ := q
    subst e1
    exact ⟨rfl, v, rv, dp⟩
theorem pde_getT {T : Str → Option PyData} {x : Str} {d : Addr} {p apos cpos : Pos} {e : Expr} {a : DE} (kt : KTab X.K X.w d T) (hm : X.mg x = some (.ref d)) (he : PDE X R e a) (m : M1 X (.Name x p) "get" apos e cpos) (hg : Gl X x := by rfl) (hdb : (x == ("__debug__" : Str)) = false := by decide) :
    PDE X R (.Call (.Attribute (.Name x p) "get" apos) [e] [] cpos) (dGetT T a) := by
  refine ⟨⟨fun pins s σ H Q I q => ?_⟩, dGetT_mono he.mono⟩
  have hn := pe_glob (pos := p) (v := .ref d) hg hm rfl hdb
  refine wpAny_Call_method m.base m.few m.line PySem.F.plainAttrs_dict PySem.F.slot_dict_get PySem.F.type_dict_get (thn (hn.run pins s σ H (fun x H' => x = .ref d ∧ H' = H) I ⟨rfl, rfl⟩) fun u s1 ⟨x, H1, I1, rx, ex, eh⟩ => ?_)
  subst ex eh
  obtain rfl : u = Value.ref d := rx -- k01
  obtain ⟨es0, n0, kd0, _⟩ := kt.ex
  have mo := PySem.W.mapOf_K (prog := X.prog) (w := X.w) I1.kIn kd0.at_ kd0.lit
  refine ⟨mo.typeIs, fun b e => ?_, ?_⟩
  · cases e
    exact mo.noDict _ rfl
  rw [m.trees]
  obtain ⟨Γ, D, r0, q⟩ := q
  have q' : liftE X.K R a σ H1 fun y H2 => ∃ (z : Str) (D2 : Hp) (Γ2 : DEnv), y = .str z ∧ ∀ v, (∀ D, Dp X.K D v ((T z).getD .none)) → Q v H2 := goE r0 he.mono q fun dd Γ1 v H1 D1 h1 r1 st q1 => by
    cases q1 with
    | str z => exact ⟨z, D1, Γ1, rfl, fun v dp => h1 v H1 D1 r1 st (dp D1)⟩
    | non => exact h1.elim
    | bl _ => exact h1.elim
    | int _ => exact h1.elim
    | lst _ _ => exact h1.elim
    | tup _ _ => exact h1.elim
  refine Calls.callWith_builtin rfl (Calls.evalArgs_plain (Calls.spliced_cons (thn (he.pe.run pins s1 σ H1 _ I1 q') fun iv s2 ⟨y, H2, I2, ry, z, D2, Γ2, ey, k⟩ => Calls.spliced_nil ?_)))
  subst ey
  obtain ⟨es, n, r, kd, e1, _, v, rv, dp⟩ := tab_get (z := z) kt
  have mo2 := PySem.W.mapOf_K (prog := X.prog) (w := X.w) I2.kIn kd.at_ kd.lit
  obtain ⟨t, rfl⟩ := ry
  refine call_meetsIn PySem.F.slot_dict_get mo2.typeIs PySem.F.entry_dict_get (PySem.F.args_dict_get_2 _ _) (meets_dict_get (PySem.strKind X.prog X.w) d (PySem.strKind_is X.prog X.w z t) kd.low) ⟨_, mo2, ?_⟩
  rw [PySem.W.find_K kd.at_ e1]
  exact ⟨v, H2, I2.tok _, rv, k v dp⟩
theorem pdt_inT {T : Str → Option PyData} {x : Str} {d : Addr} {p pos : Pos} {e : Expr} {a : DE} (kt : KTab X.K X.w d T) (hm : X.mg x = some (.ref d)) (he : PDE X R e a) (hg : Gl X x := by rfl) (hdb : (x == ("__debug__" : Str)) = false := by decide) (hb : behindInMarks .In (.Name x p) = false := by rfl) :
    PDT X R (.Compare e [.In] [.Name x p] pos) (dTest (dInT false T a)) := by
  obtain ⟨es, n, kd, kz⟩ := kt.ex
  refine ⟨pt_imp (pt_cmpR (op_in_kd kd) he.pe (pe_glob (pos := p) (v := .ref d) hg hm rfl hdb) hb) fun σ H Q ⟨Γ, D, r, q⟩ => ?_, dTest_mono (dInT_mono he.mono)⟩
  refine goE r he.mono q fun dd Γ1 v H1 D1 h1 r1 s1 q1 => ?_
  cases q1 with
  | str z =>
    obtain ⟨es', n', r', kd', e1, e2, _⟩ := tab_get (z := z) kt
    refine ⟨z, r', rfl, rfl, e1, _, rfl, ?_⟩
    rw [e2]
    exact h1 H1 D1 r1 s1
  | non => exact h1.elim
  | bl _ => exact h1.elim
  | int _ => exact h1.elim
  | lst _ _ => exact h1.elim
  | tup _ _ => exact h1.elim


theorem itd_rngC {lo c : Int} {n : Nat} : ItD K (Itc lo c n) D ((List.range n).map fun i => .int (lo + (i : Nat) * c)) := by
  refine ⟨fun i H D1 s u hi => by show i < n; simpa using hi, fun H D1 s u => by show n ≤ _; simp, fun i H D1 x H' s u hi y => ?_⟩
  obtain ⟨e, e2⟩ := y
  subst e e2
  refine ⟨D1, _, Grow.refl u, ?_, .int _⟩
  rw [List.getElem?_map, List.getElem?_range (by simpa using hi)]
  rfl
def down (n : Nat) : List PyData := (List.range n).map fun i => .int ((n : Int) - 1 - (i : Nat))
def dRev1 (a : DE) : DI := fun Γ Q => a Γ fun d Γ1 => match d with | .int j => (-(2 ^ 62) ≤ j ∧ j < 2 ^ 62) ∧ Q (down j.toNat) Γ1 | _ => False
theorem dRev1_mono {a : DE} (ma : MonoK a) : MonoK (dRev1 a) := fun Γ W W' m h => ma Γ _ _ (fun d Γ1 q => by cases d <;> first | exact ⟨q.1, m _ _ q.2⟩ | exact q) h
theorem pdi_rev1 {tg e : Expr} {p p2 pos pos2 : Pos} {a : DE} (he : PDE X R e a) (hm : X.mg "reversed" = none) (hm2 : X.mg "range" = none) (hg : Gl X "reversed" := by rfl) (hg2 : Gl X "range" := by rfl)
    (hs : starEach [.Call (.Name "range" p2) [e] [] pos2] X.env = (false, eval (.Call (.Name "range" p2) [e] [] pos2) X.env) :: starEach [] X.env := by rfl) (na : starEach [e] X.env = (false, eval e X.env) :: starEach [] X.env := by rfl) :
    PDI X R tg (.Call (.Name "reversed" p) [.Call (.Name "range" p2) [e] [] pos2] [] pos) (dRev1 a) := by
  refine ⟨DL.pi_imp (pi_revR hg hm (prg_1 hg2 hm2 he.pe na) hs) fun σ H RR ⟨Γ, D, r, q⟩ => ?_, dRev1_mono he.mono⟩
  refine goE r he.mono q fun dd Γ1 v H1 D1 h1 r1 s1 q1 => ?_
  cases q1 with
  | int j =>
    refine ⟨j, rfl, by decide, by decide, h1.1.1, h1.1.2, ?_⟩
    have e1 : (j - 0).toNat = j.toNat := by rw [Int.sub_zero]
    have e2 : down j.toNat = (List.range (j - 0).toNat).map fun i => .int ((0 : Int) + (((j - 0).toNat : Nat) : Int) - 1 + ((i : Nat) : Int) * (-1)) := by
      rw [e1]
      unfold down
      exact List.map_congr_left fun i _ => by congr 1; omega
    have it : ItD X.K (Itc (0 + (((j - 0).toNat : Nat) : Int) - 1) (-1) (j - 0).toNat) D1 (down j.toNat) := by
      rw [e2]
      exact itd_rngC
    exact h1.2 _ H1 D1 r1 s1 it
  | non => exact h1.elim
  | bl _ => exact h1.elim
  | str _ => exact h1.elim
  | lst _ _ => exact h1.elim
  | tup _ _ => exact h1.elim


theorem pde_fdiv {a b : Expr} {pos : Pos} {da db : DE} (ha : PDE X R a da) (hb : PDE X R b db) : PDE X R (.BinOp a .FloorDiv b pos) (dOp (bInt (fun i j => i / j) CDivW) da db) := pd_op op_fdivW bInt_ok bInt_mono ha hb
def bRep : PyData → PyData → (PyData → Prop) → Prop := fun d e Q => match d, e with
  | .tuple xs, .int k => xs ≠ [] ∧ 2 ≤ k ∧ k ≤ 1000 ∧ xs.length ≤ 1000 ∧ Q (.tuple (List.replicate k.toNat xs).flatten)
  | _, _ => False
theorem bRep_mono : MonoB bRep := fun d e W W' m h => by
  unfold bRep at h ⊢
  split at h
  · exact ⟨h.1, h.2.1, h.2.2.1, h.2.2.2.1, m _ h.2.2.2.2⟩
  · exact h
theorem dpAll_rep {xs : List V} {ds : List PyData} (h : DpAll K D xs ds) : ∀ n : Nat, DpAll K D (List.replicate n xs).flatten (List.replicate n ds).flatten
  | 0 => .nil
  | n + 1 => by
    rw [List.replicate_succ, List.replicate_succ, List.flatten_cons, List.flatten_cons] -- k01
    exact dpAll_app h (dpAll_rep h n)
theorem bRep_ok : OpD K (rRepT K) bRep := fun D H x y d e Q u hx hy h => by
  unfold bRep at h
  split at h
  · rename_i ds k
    cases hy
    cases hx with
    | tup s al =>
      rename_i a xs
      obtain ⟨h1, h2, h3, h4, q⟩ := h
      refine ⟨_, _, _, rfl, rfl, sqT_mono u s, fun z => h1 ((dpAll_nil_iff al).mp z), h2, h3, by rw [dpAll_len al]; exact h4, fun p hp => ?_⟩
      have g := Grow.upd (o := .tup (List.replicate k.toNat xs).flatten) u hp
      exact q _ _ _ g (.tup (SqT.of upd_same) (dpAll_mono g.d (dpAll_rep al _)))
  · exact h.elim
theorem pde_rep {a b : Expr} {pos : Pos} {da db : DE} (ha : PDE X R a da) (hb : PDE X R b db) : PDE X R (.BinOp a .Mult b pos) (dOp bRep da db) := pd_op op_repT bRep_ok bRep_mono ha hb


structure B0 (mg : Str → Option Value) : Prop where
  int : mg "int" = none
  bool : mg "bool" = none
  str : mg "str" = none
  tuple : mg "tuple" = none
  list : mg "list" = none
  len : mg "len" = none
  all : mg "all" = none
  any : mg "any" = none
  zip : mg "zip" = none
  range : mg "range" = none
  reversed : mg "reversed" = none
  enumerate : mg "enumerate" = none
  isinstance : mg "isinstance" = none
  repr : mg "repr" = none
def HasStr (mg : Str → Option Value) (x z : Str) : Prop := ∃ t, mg x = some (.str z t)
theorem pd_globS {x z : Str} {pos : Pos} (h : HasStr X.mg x z) (hg : Gl X x := by rfl) (hdb : (x == ("__debug__" : Str)) = false := by decide) : PDE X R (.Name x pos) (dC (.str z)) := by
  obtain ⟨t, e⟩ := h
  exact pd_glob hg e (v := .str z) ⟨t, rfl⟩ (fun _ => .str z) hdb
def dIfL (t : DT) (a b : DA) : DA := fun Γ Q => t Γ fun c Γ1 => if c = true then a Γ1 Q else b Γ1 Q
theorem pdl_if {c e f : Expr} {pos : Pos} {t : DT} {a b : DA} (hc : PDT X R c t) (ha : PDL X R e a) (hb : PDL X R f b) : PDL X R (.IfExp c e f pos) (dIfL t a b) := by
  refine ⟨pe_imp (pe_ifExp hc.pt ha.pl hb.pl) fun σ H Q ⟨Γ, D, r, q⟩ => ?_, fun Γ W W' m q => hc.mono Γ _ _ (fun c Γ1 z => by
    cases c with
    | true => exact ha.mono Γ1 _ _ m z
    | false => exact hb.mono Γ1 _ _ m z) q⟩
  refine goT r hc.mono q fun c Γ1 H1 D1 h1 r1 s1 => ?_
  cases c with
  | true =>
    have h1 : a Γ1 _ := h1
    refine goL r1 ha.mono h1 fun ds Γ2 p xs H2 D2 h2 r2 s2 hp hp1 hD nm q2 => h2 p xs H2 D2 r2 (s1.trans s2) (step_free s1 hp) hp1 hD nm q2
  | false =>
    have h1 : b Γ1 _ := h1
    refine goL r1 hb.mono h1 fun ds Γ2 p xs H2 D2 h2 r2 s2 hp hp1 hD nm q2 => h2 p xs H2 D2 r2 (s1.trans s2) (step_free s1 hp) hp1 hD nm q2
end
theorem blkOk {N : List Str} {sc scope : Scope} {own : List (Str × Nat)} (kind : scope.kind = .function) (uniq : ∀ y ∈ scope.names, scope.names.lookup y.1 = some y.2) (ix : ∀ p ∈ own, N[p.2]? = some p.1)
    (free : ∀ y ∈ scope.names, y.2 = .free → sc.names.lookup y.1 = some .cell ∨ sc.names.lookup y.1 = some .free) (ow : ∀ y ∈ scope.names, y.2 = .local ∨ y.2 = .cell → y.1 ∈ own.map (·.1) ∨ y.1 ∉ N) : BlkOk N sc scope own := ⟨kind, uniq, ix, free, ow⟩
theorem pde_lele {X : Cx} {R : Root} {a b c : Expr} {pos : Pos} {da db dc : DE} (ha : PDE X R a da) (hb : PDE X R b db) (hc : PDE X R c dc) (hm : lastMarks [.LtE, .LtE] [b, c] = false := by rfl) : PDE X R (.Compare a [.LtE, .LtE] [b, c] pos) (dChain bLe bLe da db dc) := pde_chain op_leX op_leX bOrd_ok bOrd_ok bOrd_mono bOrd_mono ha hb hc hm
theorem pdt_lele {X : Cx} {R : Root} {a b c : Expr} {pos : Pos} {da db dc : DE} (ha : PDE X R a da) (hb : PDE X R b db) (hc : PDE X R c dc) (hm : lastMarks [.LtE, .LtE] [b, c] = false := by rfl) : PDT X R (.Compare a [.LtE, .LtE] [b, c] pos) (dTest (dChain bLe bLe da db dc)) := pdt_chain op_leX op_leX bOrd_ok bOrd_ok bOrd_mono bOrd_mono ha hb hc hm
theorem pde_lelt {X : Cx} {R : Root} {a b c : Expr} {pos : Pos} {da db dc : DE} (ha : PDE X R a da) (hb : PDE X R b db) (hc : PDE X R c dc) (hm : lastMarks [.LtE, .Lt] [b, c] = false := by rfl) : PDE X R (.Compare a [.LtE, .Lt] [b, c] pos) (dChain bLe bLt da db dc) := pde_chain op_leX op_ltX bOrd_ok bOrd_ok bOrd_mono bOrd_mono ha hb hc hm
theorem pdt_lelt {X : Cx} {R : Root} {a b c : Expr} {pos : Pos} {da db dc : DE} (ha : PDE X R a da) (hb : PDE X R b db) (hc : PDE X R c dc) (hm : lastMarks [.LtE, .Lt] [b, c] = false := by rfl) : PDT X R (.Compare a [.LtE, .Lt] [b, c] pos) (dTest (dChain bLe bLt da db dc)) := pdt_chain op_leX op_ltX bOrd_ok bOrd_ok bOrd_mono bOrd_mono ha hb hc hm
theorem pde_ltle {X : Cx} {R : Root} {a b c : Expr} {pos : Pos} {da db dc : DE} (ha : PDE X R a da) (hb : PDE X R b db) (hc : PDE X R c dc) (hm : lastMarks [.Lt, .LtE] [b, c] = false := by rfl) : PDE X R (.Compare a [.Lt, .LtE] [b, c] pos) (dChain bLt bLe da db dc) := pde_chain op_ltX op_leX bOrd_ok bOrd_ok bOrd_mono bOrd_mono ha hb hc hm
theorem pdt_ltle {X : Cx} {R : Root} {a b c : Expr} {pos : Pos} {da db dc : DE} (ha : PDE X R a da) (hb : PDE X R b db) (hc : PDE X R c dc) (hm : lastMarks [.Lt, .LtE] [b, c] = false := by rfl) : PDT X R (.Compare a [.Lt, .LtE] [b, c] pos) (dTest (dChain bLt bLe da db dc)) := pdt_chain op_ltX op_leX bOrd_ok bOrd_ok bOrd_mono bOrd_mono ha hb hc hm
theorem pde_ltlt {X : Cx} {R : Root} {a b c : Expr} {pos : Pos} {da db dc : DE} (ha : PDE X R a da) (hb : PDE X R b db) (hc : PDE X R c dc) (hm : lastMarks [.Lt, .Lt] [b, c] = false := by rfl) : PDE X R (.Compare a [.Lt, .Lt] [b, c] pos) (dChain bLt bLt da db dc) := pde_chain op_ltX op_ltX bOrd_ok bOrd_ok bOrd_mono bOrd_mono ha hb hc hm
theorem pdt_ltlt {X : Cx} {R : Root} {a b c : Expr} {pos : Pos} {da db dc : DE} (ha : PDE X R a da) (hb : PDE X R b db) (hc : PDE X R c dc) (hm : lastMarks [.Lt, .Lt] [b, c] = false := by rfl) : PDT X R (.Compare a [.Lt, .Lt] [b, c] pos) (dTest (dChain bLt bLt da db dc)) := pdt_chain op_ltX op_ltX bOrd_ok bOrd_ok bOrd_mono bOrd_mono ha hb hc hm
theorem blkOk0 {N : List Str} {sc scope : Scope} {own : List (Str × Nat)} (kind : scope.kind = .function) (uniq : ∀ y ∈ scope.names, scope.names.lookup y.1 = some y.2) (ix : ∀ p ∈ own, N[p.2]? = some p.1)
    (free : ∀ y ∈ scope.names, y.2 ≠ .free) (ow : ∀ y ∈ scope.names, y.2 = .local ∨ y.2 = .cell → y.1 ∈ own.map (·.1) ∨ y.1 ∉ N) : BlkOk N sc scope own := ⟨kind, uniq, ix, fun y h e => absurd e (free y h), ow⟩
end DL

set_option Elab.async false
set_option linter.all false
set_option maxRecDepth 100000

namespace DL
open PySem PySem.Spec PyProof.Rows L2
def forD (g : DG) (b : DS) (E : DEnds) : List PyData → DEnv → Prop
  | [], Γ => E.nx Γ
  | d :: r, Γ => g d Γ fun Γ2 => b { E with nx := forD g b E r, ct := forD g b E r, bk := E.nx } Γ2
def dForD (di : DI) (g : DG) (b : DS) : DS := fun E Γ => di Γ fun ds Γ1 => forD g b E ds Γ1
theorem forD_mono {g : DG} {b : DS} (mg : MonoG g) (mb : MonoS b) {E E' : DEnds} (l : Le E E') : ∀ (ds : List PyData) (Γ : DEnv), forD g b E ds Γ → forD g b E' ds Γ
  | [], Γ, h => l.nx _ h
  | d :: r, Γ, h => mg d Γ _ _ (fun Γ2 q => mb { E with nx := forD g b E r, ct := forD g b E r, bk := E.nx } { E' with nx := forD g b E' r, ct := forD g b E' r, bk := E'.nx } Γ2 ⟨fun Γ3 z => forD_mono mg mb l r Γ3 z, l.rt, l.nx, fun Γ3 z => forD_mono mg mb l r Γ3 z⟩ q) h
theorem forD_for {di : DI} {g : DG} {b : DS} (mi : MonoK di) {E : DEnds} {Γ : DEnv} (h : dForD di g b E Γ) : dFor di g b E Γ :=
  mi Γ _ _ (fun ds Γ1 q => ⟨fun i Γ' => forD g b E (ds.drop i) Γ', q, fun i d Γ' e p => by
    dsimp only at p
    obtain ⟨hi, e⟩ := List.getElem?_eq_some_iff.mp e
    rw [List.drop_eq_getElem_cons hi, e] at p
    exact p, fun Γ' p => by
    dsimp only at p
    rw [List.drop_length] at p
    exact p⟩) h
def lcD (g : DG) (t : DT) (e : DE) (vs : List Nat) (Q : List PyData → DEnv → Prop) : List PyData → List PyData → DEnv → Prop
  | [], acc, Γ => Q acc Γ
  | d :: r, acc, Γ => g d (wipeD Γ vs) fun Γ2 => t Γ2 fun b Γ3 => if b = true then e Γ3 fun y Γ4 => acc.length < 1000000 ∧ lcD g t e vs Q r (acc ++ [y]) (backD Γ4 Γ vs) else lcD g t e vs Q r acc (backD Γ3 Γ vs)
def dLcD (di : DI) (g : DG) (t : DT) (e : DE) (vs : List Nat) : DA := fun Γ Q => di Γ fun ds Γ1 => okW Γ1 vs ∧ lcD g t e vs Q ds [] Γ1
theorem lcD_mono {g : DG} {t : DT} {e : DE} {vs : List Nat} (mg : MonoG g) (mt : MonoK t) (me : MonoK e) {Q Q' : List PyData → DEnv → Prop} (l : ∀ a Γ, Q a Γ → Q' a Γ) : ∀ (ds acc : List PyData) (Γ : DEnv), lcD g t e vs Q ds acc Γ → lcD g t e vs Q' ds acc Γ
  | [], acc, Γ, h => l _ _ h
  | d :: r, acc, Γ, h => mg d _ _ _ (fun Γ2 q => mt Γ2 _ _ (fun b Γ3 z => by
    cases b with
    | true => exact me Γ3 _ _ (fun y Γ4 u => ⟨u.1, lcD_mono mg mt me l r _ _ u.2⟩) z
    | false => exact lcD_mono mg mt me l r _ _ z) q) h
theorem lcD_lc {di : DI} {g : DG} {t : DT} {e : DE} {vs : List Nat} (mi : MonoK di) {Γ : DEnv} {Q : List PyData → DEnv → Prop} (h : dLcD di g t e vs Γ Q) : dLc di g t e vs Γ Q :=
  mi Γ _ _ (fun ds Γ1 ⟨ok, q⟩ => ⟨ok, fun i acc Γ' => lcD g t e vs Q (ds.drop i) acc Γ', q, fun i d acc Γ' e p => by
    dsimp only at p
    obtain ⟨hi, e⟩ := List.getElem?_eq_some_iff.mp e
    rw [List.drop_eq_getElem_cons hi, e] at p
    exact p, fun acc Γ' p => by
    dsimp only at p
    rw [List.drop_length] at p
    exact p⟩) h
section
variable {X : Cx} {R : Root} {K : PySem.W.Frag}
theorem liftS_imp {s u : DS} (i : ∀ E Γ, u E Γ → s E Γ) {E : Ends} {σ : L2.St} {H : Hp} (h : liftS K R u E σ H) : liftS K R s E σ H := by
  obtain ⟨Γ, D, r, q⟩ := h
  exact ⟨Γ, D, r, i _ _ q⟩
theorem PDS.imp {st : Stmt} {s u : DS} (h : PDS X R st s) (m : MonoS u) (i : ∀ E Γ, u E Γ → s E Γ) : PDS X R st u := ⟨ps_imp h.ps fun E σ H q => liftS_imp i q, m⟩
theorem PDL.imp {e : Expr} {s u : DA} (h : PDL X R e s) (m : MonoK u) (i : ∀ Γ Q, u Γ Q → s Γ Q) : PDL X R e u := ⟨pe_imp h.pl fun σ H Q ⟨Γ, D, r, q⟩ => ⟨Γ, D, r, i _ _ q⟩, m⟩
theorem pds_forD {tg iter : Expr} {body : List Stmt} {di : DI} {g : DG} {js : List Nat} {b : DS} {pos : Pos} (hp : PassesOwn (model X.prog X.w) X.A X.env X.xe) (hc : X.calm = true) (hi : PDI X R tg iter di) (hg : PDG X R js tg g) (hb : PDSs X R body b)
    (hs : ∀ x, foldedSetIterable iter X.env x = pure x := by intro _; rfl) : PDS X R (.For tg iter body [] pos) (dForD di g b) :=
  (pds_for hp hc hi hg hb hs).imp (fun E E' Γ l h => hi.mono Γ _ _ (fun ds Γ1 q => forD_mono hg.mono hb.mono l ds Γ1 q) h) fun E Γ h => forD_for hi.mono h
theorem dLcD_mono {di : DI} {g : DG} {t : DT} {e : DE} {vs : List Nat} (mi : MonoK di) (mg : MonoG g) (mt : MonoK t) (me : MonoK e) : MonoK (dLcD di g t e vs) := fun Γ W W' m h => mi Γ _ _ (fun ds Γ1 ⟨ok, q⟩ => ⟨ok, lcD_mono mg mt me m ds [] Γ1 q⟩) h
theorem pdl_lcD {elt tg iter : Expr} {ifs : List Expr} {scope : Scope} {own : List (Str × Nat)} {pos : Pos} {di : DI} {g : DG} {t : DT} {e : DE} {js : List Nat} (hc : X.calm = true) (hN : X.N.Nodup) (hi : PDI X R tg iter di) (ok : BlkOk X.N X.env.scope scope own)
    (hg : ∀ (s : Shared) (H : Hp) (C : Addr) (cl : List (Str × Addr)) (fp : List Addr), PDG (X.blk s H scope (compEnvC scope cl C X.env) fp) R js tg g) (ht : ∀ (s : Shared) (H : Hp) (C : Addr) (cl : List (Str × Addr)) (fp : List Addr), PDTs (X.blk s H scope (compEnvC scope cl C X.env) fp) R ifs t)
    (he : ∀ (s : Shared) (H : Hp) (C : Addr) (cl : List (Str × Addr)) (fp : List Addr), PDE (X.blk s H scope (compEnvC scope cl C X.env) fp) R elt e) (hj : ∀ j ∈ js, j ∈ own.map (·.2) := by decide) (hs : ∀ x, foldedSetIterable iter X.env x = pure x := by intro _; rfl) :
    PDL X R (.ListComp elt [⟨tg, iter, ifs, 0⟩] scope pos) (dLcD di g t e (own.map (·.2))) :=
  (pdl_lc hc hN hi ok hg ht he hj hs).imp (dLcD_mono hi.mono (hg X.s_0 X.H_0 0 [] []).mono (ht X.s_0 X.H_0 0 [] []).mono (he X.s_0 X.H_0 0 [] []).mono) fun Γ Q h => lcD_lc hi.mono h
theorem pds_setLcOD {i : Nat} {y : Str} {py : Pos} {elt tg iter : Expr} {ifs : List Expr} {scope : Scope} {own : List (Str × Nat)} {pos spos : Pos} {di : DI} {g : DG} {t : DT} {e : DE} {js : List Nat} (hc : X.calm = true) (hN : X.N.Nodup)
    (hsw : swapsWith (.ListComp elt [⟨tg, iter, ifs, 0⟩] scope pos) (some (.Name y py)) spos.line X.env = pure true) (hi : PDI X R tg iter di) (ok : BlkOk X.N X.env.scope scope own)
    (hg : ∀ (s : Shared) (H : Hp) (C : Addr) (cl : List (Str × Addr)) (fp : List Addr), PDG (X.blk s H scope (compEnvC scope cl C X.env) fp) R js tg g) (ht : ∀ (s : Shared) (H : Hp) (C : Addr) (cl : List (Str × Addr)) (fp : List Addr), PDTs (X.blk s H scope (compEnvC scope cl C X.env) fp) R ifs t)
    (he : ∀ (s : Shared) (H : Hp) (C : Addr) (cl : List (Str × Addr)) (fp : List Addr), PDE (X.blk s H scope (compEnvC scope cl C X.env) fp) R elt e) (hj : ∀ j ∈ js, j ∈ own.map (·.2) := by decide) (hy : X.N[i]? = some y := by rfl) (hyl : X.env.scope.names.lookup y = some .local := by rfl) (hs : ∀ x, foldedSetIterable iter X.env x = pure x := by intro _; rfl) :
    PDS X R (.Assign [.Name y py] (.ListComp elt [⟨tg, iter, ifs, 0⟩] scope pos) spos) (dAsgO (dLcD di g t e (own.map (·.2))) i) :=
  (pds_setLcO (i := i) hc hN hsw hi ok hg ht he hj hy hyl hs).imp (dAsgO_mono (dLcD_mono hi.mono (hg X.s_0 X.H_0 0 [] []).mono (ht X.s_0 X.H_0 0 [] []).mono (he X.s_0 X.H_0 0 [] []).mono)) fun E Γ h => lcD_lc hi.mono h
theorem pds_setLcD {i : Nat} {y : Str} {py : Pos} {elt tg iter : Expr} {ifs : List Expr} {scope : Scope} {own : List (Str × Nat)} {pos spos : Pos} {di : DI} {g : DG} {t : DT} {e : DE} {js : List Nat} (hc : X.calm = true) (hN : X.N.Nodup)
    (hsw : swapsWith (.ListComp elt [⟨tg, iter, ifs, 0⟩] scope pos) (some (.Name y py)) spos.line X.env = pure true) (hi : PDI X R tg iter di) (ok : BlkOk X.N X.env.scope scope own)
    (hg : ∀ (s : Shared) (H : Hp) (C : Addr) (cl : List (Str × Addr)) (fp : List Addr), PDG (X.blk s H scope (compEnvC scope cl C X.env) fp) R js tg g) (ht : ∀ (s : Shared) (H : Hp) (C : Addr) (cl : List (Str × Addr)) (fp : List Addr), PDTs (X.blk s H scope (compEnvC scope cl C X.env) fp) R ifs t)
    (he : ∀ (s : Shared) (H : Hp) (C : Addr) (cl : List (Str × Addr)) (fp : List Addr), PDE (X.blk s H scope (compEnvC scope cl C X.env) fp) R elt e) (hj : ∀ j ∈ js, j ∈ own.map (·.2) := by decide) (hy : X.N[i]? = some y := by rfl) (hyl : X.env.scope.names.lookup y = some .local := by rfl) (hs : ∀ x, foldedSetIterable iter X.env x = pure x := by intro _; rfl) :
    PDS X R (.Assign [.Name y py] (.ListComp elt [⟨tg, iter, ifs, 0⟩] scope pos) spos) (dAsg (dFrz (dLcD di g t e (own.map (·.2)))) i) :=
  (pds_setLc (i := i) hc hN hsw hi ok hg ht he hj hy hyl hs).imp (dAsg_mono (dFrz_mono (dLcD_mono hi.mono (hg X.s_0 X.H_0 0 [] []).mono (ht X.s_0 X.H_0 0 [] []).mono (he X.s_0 X.H_0 0 [] []).mono))) fun E Γ h => lcD_lc hi.mono h
end
theorem lcD_fm {g : DG} {t : DT} {e : DE} {vs : List Nat} {Q : List PyData → DEnv → Prop} {Γ : DEnv} (p : PyData → Bool) (fn : PyData → PyData) : ∀ (ds acc : List PyData), acc.length + ds.length ≤ 1000000 →
    (∀ d ∈ ds, ∀ (Y : PyData → DEnv → Prop) (Z : DEnv → Prop), (p d = true → ∀ Γ', backD Γ' Γ vs = Γ → Y (fn d) Γ') → (p d = false → ∀ Γ', backD Γ' Γ vs = Γ → Z Γ') → g d (wipeD Γ vs) fun Γ2 => t Γ2 fun b Γ3 => if b = true then e Γ3 Y else Z Γ3) →
    Q (acc ++ (ds.filter p).map fn) Γ → lcD g t e vs Q ds acc Γ
  | [], acc, _, _, q => by
    have q : Q (acc ++ []) Γ := q
    rw [List.append_nil] at q
    exact q
  | d :: r, acc, l, h, q => by
    have l' : acc.length + (r.length + 1) ≤ 1000000 := l
    refine h d List.mem_cons_self _ _ (fun hp Γ' e => ⟨by omega, ?_⟩) (fun hp Γ' e => ?_)
    · rw [e]
      refine lcD_fm p fn r _ (by rw [List.length_append]; show acc.length + 1 + r.length ≤ _; omega) (fun d' m => h d' (List.mem_cons_of_mem _ m)) ?_
      rw [List.append_assoc]
      rw [List.filter_cons_of_pos hp] at q
      exact q
    · rw [e]
      refine lcD_fm p fn r _ (by omega) (fun d' m => h d' (List.mem_cons_of_mem _ m)) ?_
      rw [List.filter_cons_of_neg (by rw [hp]; exact Bool.false_ne_true)] at q
      exact q
theorem lcD_map {g : DG} {t : DT} {e : DE} {vs : List Nat} {Q : List PyData → DEnv → Prop} {Γ : DEnv} (fn : PyData → PyData) (ds acc : List PyData) (l : acc.length + ds.length ≤ 1000000)
    (h : ∀ d ∈ ds, ∀ (Y : PyData → DEnv → Prop) (Z : DEnv → Prop), (∀ Γ', backD Γ' Γ vs = Γ → Y (fn d) Γ') → g d (wipeD Γ vs) fun Γ2 => t Γ2 fun b Γ3 => if b = true then e Γ3 Y else Z Γ3)
    (q : Q (acc ++ ds.map fn) Γ) : lcD g t e vs Q ds acc Γ := by
  refine lcD_fm (fun _ => true) fn ds acc l (fun d m Y Z y _ => h d m Y Z (y rfl)) ?_
  rw [List.filter_eq_self.mpr fun _ _ => rfl]
  exact q
def okWb (Γ : DEnv) (vs : List Nat) : Bool := vs.all fun v => match Γ[v]? with | some none => true | some (some (Ent.dat _)) => true | _ => false
theorem okW_of {Γ : DEnv} {vs : List Nat} (h : okWb Γ vs = true := by rfl) : okW Γ vs := fun v hv => by
  have q := List.all_eq_true.mp h v hv
  revert q
  cases e : Γ[v]? with
  | none => intro q; cases q
  | some c =>
    intro q
    refine ⟨c, rfl, fun ds => ⟨fun z => ?_, fun z => ?_⟩⟩ <;> (subst z; cases q)
theorem at0 {α : Type} (a : α) (r : List α) : atI (a :: r) 0 = some a := atI_nat (j := 0) rfl
theorem at1 {α : Type} (a b : α) (r : List α) : atI (a :: b :: r) 1 = some b := atI_nat (j := 1) rfl
theorem at2 {α : Type} (a b c : α) (r : List α) : atI (a :: b :: c :: r) 2 = some c := atI_nat (j := 2) rfl
theorem at3 {α : Type} (a b c d : α) (r : List α) : atI (a :: b :: c :: d :: r) 3 = some d := atI_nat (j := 3) rfl
theorem eqvS (a b : Str) : PyData.eqv (.str a) (.str b) = decide (a = b) := by
  show (a == b) = _
  by_cases h : a = b
  · subst h; simp
  · rw [decide_eq_false h]; simp [h]
theorem eqvI (a b : Int) : PyData.eqv (.int a) (.int b) = decide (a = b) := by
  show (a == b) = _
  by_cases h : a = b
  · subst h; simp
  · rw [decide_eq_false h]; simp [h]
theorem shS (a : Str) : SeqAt.shaped (.str a) = PyData.strOk a := by
  show (PyData.strOk a && decide (0 ≤ 64)) = _
  simp
theorem shI (a : Int) : SeqAt.shaped (.int a) = true := by
  show (true && decide (0 ≤ 64)) = _
  simp
theorem ex_some {α : Type} {a : α} {P : α → Prop} : (∃ z, some a = some z ∧ P z) ↔ P a := ⟨fun ⟨z, e, p⟩ => by cases e; exact p, fun p => ⟨a, rfl, p⟩⟩
theorem cut1 (a : PyData) (r : List PyData) : cutD (a :: r) (some 1) none = r := by
  unfold cutD
  have e1 : HT.sIx (a :: r).length 0 (some 1) = 1 := by
    have := HT.sIx_nat (a :: r).length 0 1
    rw [show (some (((1 : Nat) : Int))) = some (1 : Int) from rfl] at this
    rw [this]
    show min 1 (r.length + 1) = 1
    omega
  rw [e1, HT.sIx_none]
  show List.take (r.length + 1 - 1) r = r
  rw [Nat.add_sub_cancel, List.take_length]
theorem lcD_mapA {α : Type} {g : DG} {t : DT} {e : DE} {vs : List Nat} {Q : List PyData → DEnv → Prop} {Γ : DEnv} (f fn : α → PyData) : ∀ (as : List α) (acc : List PyData), acc.length + as.length ≤ 1000000 →
    (∀ a ∈ as, ∀ (Y : PyData → DEnv → Prop) (Z : DEnv → Prop), (∀ Γ', backD Γ' Γ vs = Γ → Y (fn a) Γ') → g (f a) (wipeD Γ vs) fun Γ2 => t Γ2 fun b Γ3 => if b = true then e Γ3 Y else Z Γ3) →
    Q (acc ++ as.map fn) Γ → lcD g t e vs Q (as.map f) acc Γ
  | [], acc, _, _, q => by
    have q : Q (acc ++ []) Γ := q
    rw [List.append_nil] at q
    exact q
  | a :: r, acc, l, h, q => by
    have l' : acc.length + (r.length + 1) ≤ 1000000 := l
    refine h a List.mem_cons_self _ _ (fun Γ' e => ⟨by omega, ?_⟩)
    rw [e]
    refine lcD_mapA f fn r _ (by rw [List.length_append]; show acc.length + 1 + r.length ≤ _; omega) (fun d' m => h d' (List.mem_cons_of_mem _ m)) ?_
    rw [List.append_assoc]
    exact q
section
variable {X : Cx} {R : Root} {K : PySem.W.Frag}
theorem pdn_own (i : Nat) {x : Str} {p pos : Pos} (hN : X.N[i]? = some x := by rfl) (hv : Vis X.env.scope x := by first | exact Or.inl rfl | exact Or.inr (Or.inl rfl) | exact Or.inr (Or.inr rfl)) (hd : (x == ("__debug__" : Str)) = false := by decide)
    (hcd : (x == ("__classdict__" : Str)) = false := by decide) : PDN X R [.Return (some (.Name x p)) pos] (fun W Γ => match Γ[i]? with | some (some (Ent.own ds)) => W ds | _ => False) := by
  refine ⟨⟨_, pss_one (ps_ret (pe_var hN hv hd hcd)), fun E σ H Γ D W r q k => ?_⟩, fun W W' Γ m q => ?_⟩
  · split at q
    · rename_i ds e
      obtain ⟨a, xs, e1, e2, e3, e4, e5⟩ := r.own i ds e
      exact ⟨_, e1, k ds σ Γ a xs H D q r (Same.refl _) e5 e2 e3 e4⟩
    · exact q.elim
  · split at q
    · exact m _ q
    · exact q
theorem pdn_if {c : Expr} {a rest : List Stmt} {pos : Pos} {t : DT} {s u : NDS} (hc : PDT X R c t) (ha : PDN X R a s) (hr : PDN X R rest u) : PDN X R (.If c a [] pos :: rest) (fun W Γ => t Γ fun b Γ1 => if b = true then s W Γ1 else u W Γ1) := by
  obtain ⟨⟨ta, hta, ka⟩, ma⟩ := ha
  obtain ⟨⟨tr, htr, kr⟩, mr⟩ := hr
  refine ⟨⟨_, pss_cons (ps_if hc.pt hta pss_nil) htr, fun E σ H Γ D W r q k => ?_⟩, fun W W' Γ m q => hc.mono Γ _ _ (fun b Γ1 z => ?_) q⟩
  · refine goT r hc.mono q fun b Γ1 H1 D1 h1 r1 s1 => ?_
    cases b with
    | true => exact ka _ σ H1 Γ1 D1 W r1 h1 fun rs σ2 Γ2 p xs H2 D2 w r2 s2 n hp hD dp => k rs σ2 Γ2 p xs H2 D2 w r2 (s1.d.trans s2) n hp hD dp
    | false => exact kr E σ H1 Γ1 D1 W r1 h1 fun rs σ2 Γ2 p xs H2 D2 w r2 s2 n hp hD dp => k rs σ2 Γ2 p xs H2 D2 w r2 (s1.d.trans s2) n hp hD dp
  · cases b with
    | true => exact ma W W' Γ1 m z
    | false => exact mr W W' Γ1 m z
end
theorem forD_inv {g : DG} {b : DS} {E : DEnds} (Pv : Nat → DEnv → Prop) : ∀ (ds : List PyData) (i : Nat) (Γ : DEnv),
    (∀ j d, ds[j]? = some d → ∀ (Γ : DEnv) (N : DEnv → Prop), Pv (i + j) Γ → (∀ Γ', Pv (i + j + 1) Γ' → N Γ') → g d Γ fun Γ2 => b { E with nx := N, ct := N, bk := E.nx } Γ2) →
    Pv i Γ → (∀ Γ', Pv (i + ds.length) Γ' → E.nx Γ') → forD g b E ds Γ
  | [], i, Γ, _, h, q => q Γ h
  | d :: r, i, Γ, st, h, q => st 0 d rfl Γ _ h fun Γ' h' => forD_inv Pv r (i + 1) Γ' (fun j d' e Γ2 N p k => st (j + 1) d' e Γ2 N (by rw [show i + (j + 1) = i + 1 + j by omega]; exact p) fun Γ3 p3 => k Γ3 (by rw [show i + 1 + j + 1 = i + (j + 1) + 1 by omega]; exact p3)) h' fun Γ2 p => q Γ2 (by
    rw [List.length_cons, show i + (r.length + 1) = i + 1 + r.length by omega]
    exact p)
theorem lcD_inv {g : DG} {t : DT} {e : DE} {vs : List Nat} {Q : List PyData → DEnv → Prop} (Pv : Nat → List PyData → DEnv → Prop) : ∀ (ds : List PyData) (i : Nat) (acc : List PyData) (Γ : DEnv),
    (∀ j d (acc : List PyData) (Γ : DEnv), ds[j]? = some d → Pv (i + j) acc Γ → ∀ (Y : PyData → DEnv → Prop) (Z : DEnv → Prop), (∀ y Γ', Pv (i + j + 1) (acc ++ [y]) (backD Γ' Γ vs) → Y y Γ') → g d (wipeD Γ vs) fun Γ2 => t Γ2 fun b Γ3 => if b = true then e Γ3 Y else Z Γ3) →
    (∀ j (acc : List PyData) (Γ : DEnv), Pv (i + j) acc Γ → j < ds.length → acc.length < 1000000) → Pv i acc Γ → (∀ (acc : List PyData) (Γ : DEnv), Pv (i + ds.length) acc Γ → Q acc Γ) → lcD g t e vs Q ds acc Γ
  | [], i, acc, Γ, _, _, h, q => q acc Γ h
  | d :: r, i, acc, Γ, st, le, h, q => st 0 d acc Γ rfl h _ _ fun y Γ' h' => ⟨le 0 acc Γ h (by simp), lcD_inv Pv r (i + 1) _ _ (fun j d' a2 Γ2 e2 p => by
      rw [show i + 1 + j = i + (j + 1) by omega] at p ⊢
      exact st (j + 1) d' a2 Γ2 e2 p) (fun j a2 Γ2 p hj => le (j + 1) a2 Γ2 (by rw [show i + (j + 1) = i + 1 + j by omega]; exact p) (by rw [List.length_cons]; omega)) h' fun a2 Γ2 p => q a2 Γ2 (by
      rw [List.length_cons, show i + (r.length + 1) = i + 1 + r.length by omega]
      exact p)⟩
end DL

set_option Elab.async false
set_option linter.all false
set_option maxRecDepth 100000

namespace DL
open PySem PySem.Spec PyProof.Rows L2
mutual
theorem dp_plain {K : PySem.W.Frag} {H : Hp} : ∀ {d : PyData} {v : V}, Dp K H v d → d.hasDict = false
  | .none, _, _ => rfl
  | .bool _, _, _ => rfl
  | .int _, _, _ => rfl
  | .str _, _, _ => rfl
  | .list ds, _, h => by
    cases h with
    | lst q a => exact dpAll_plain a
  | .tuple ds, _, h => by
    cases h with
    | tup q a => exact dpAll_plain a
  | .dict _, _, h => by cases h
theorem dpAll_plain {K : PySem.W.Frag} {H : Hp} : ∀ {ds : List PyData} {vs : List V}, DpAll K H vs ds → PyData.hasDictAll ds = false
  | [], _, _ => rfl
  | _ :: _, _, h => by
    cases h with
    | cons a b =>
      show (PyData.hasDict _ || PyData.hasDictAll _) = false
      rw [dp_plain a, dpAll_plain b]
      rfl
end
def cRepr : List PyData → (PyData → Prop) → Prop := fun ds Q => ∃ d, ds = [d] ∧ d.showable = true ∧ d.depth ≤ 60 ∧ d.shown.length ≤ 16777216 ∧ Q (.str d.shown)
theorem cRepr_mono : MonoC cRepr := fun ds W W' m ⟨d, e, a, b, c, h⟩ => ⟨d, e, a, b, c, m _ h⟩
theorem l16 {n : Nat} (h : n ≤ 16777216) : n ≤ sizeLine := by
  have e : sizeLine = 16777216 := by decide
  rw [e]; exact h
section
variable {X : Cx} {R : Root} {K : PySem.W.Frag}
theorem call_reprD (hg : X.A.guards = some []) (hu : X.A.units + 64 < cLine) : CallR X (.builtin "repr") (fun xs H Q => ∃ x d D, xs = [x] ∧ Sub D H ∧ Dp X.K D x d ∧ d.showable = true ∧ d.depth ≤ 60 ∧ d.shown.length ≤ 16777216 ∧ Q (.str d.shown) H) := by
  intro pins s σ H xs us Q I rv hh
  obtain ⟨x, d, D, rfl, u0, dp, sh, dep, len, q⟩ := hh
  obtain ⟨v, rfl, rx⟩ := rv.one
  have dpH : Dp X.K H x d := dp_mono u0 dp
  have rd := L2.Dp.reads I d x v (dp_l2 dpH) rx
  have out : ∀ h' u tk, (∀ b o, s.heap.get? b = some o → h'.get? b = some o) → EP X pins σ Q (.str d.shown u) { s with heap := h', toks := tk } := fun h' u tk hk =>
    ⟨.str d.shown, H, I.kept (t' := tk) hk, ⟨u, rfl⟩, q⟩
  have line := l16 len
  cases dpH with
  | non =>
    obtain rfl : v = .none := rx
    exact PySem.P.repr_of_none (out s.heap _ _ fun _ _ e => e)
  | bl b =>
    obtain rfl : v = .bool b := rx
    exact PySem.P.repr_of_bool (out s.heap _ _ fun _ _ e => e)
  | int i =>
    obtain ⟨t, rfl⟩ := rx
    exact PySem.P.repr_of_int (of_decide_eq_true sh) (out s.heap _ _ fun _ _ e => e)
  | str z =>
    obtain ⟨t, rfl⟩ := rx
    exact PySem.P.repr_of_str (out s.heap _ _ fun _ _ e => e) line
  | lst q1 a1 =>
    obtain ⟨as, rd⟩ := rd
    cases rx
    exact repr_of_reads' rd sh (PyData.noDict_hsm (dp_plain dp)) hg (by omega) (fun _ _ e => e) (fun h' u tk hk => out h' u tk hk) line
  | tup q1 a1 =>
    obtain ⟨as, rd⟩ := rd
    cases rx
    exact repr_of_reads' rd sh (PyData.noDict_hsm (dp_plain dp)) hg (by omega) (fun _ _ e => e) (fun h' u tk hk => out h' u tk hk) line
theorem cRepr_ok : CallD K (fun xs H Q => ∃ x d D, xs = [x] ∧ Sub D H ∧ Dp K D x d ∧ d.showable = true ∧ d.depth ≤ 60 ∧ d.shown.length ≤ 16777216 ∧ Q (.str d.shown) H) cRepr := fun D H xs ds Q u hd ⟨d, e, a, b, c, h⟩ => by
  subst e
  cases hd with
  | cons x y =>
    cases y
    exact ⟨_, d, D, rfl, u, x, a, b, c, h _ _ _ (Grow.refl u) (.str _)⟩
theorem pde_repr {e : Expr} {p pos : Pos} {a : DE} (hgu : X.A.guards = some []) (hu : X.A.units + 64 < cLine) (ha : PDE X R e a) (hm : X.mg "repr" = none) (hg : Gl X "repr" := by rfl) (he : starEach [e] X.env = (false, eval e X.env) :: starEach [] X.env := by rfl) (hpl : (backTo pos (starEach [] X.env)).any (·.1) = false := by rfl) :
    PDE X R (.Call (.Name "repr" p) [e] [] pos) (dCall cRepr (dCons a dNil)) := DL.pde_callB (call_reprD hgu hu) cRepr_ok cRepr_mono hg hm (by decide +kernel) (pda_cons ha pda_nil he) (by decide) (by decide) he hpl
end
end DL

set_option Elab.async false
set_option linter.all false
set_option maxRecDepth 100000

namespace DL
open PySem PySem.Spec PyProof.Rows L2
section
variable {P : Program} {w : World} {K : PySem.W.Frag} {mg : Str → Option Value}
structure LawBody (P : Program) (w : World) (K : PySem.W.Frag) (mg : Str → Option Value) (st : Stmt) (x p : Str) (N : List Str) (k : Nat) (f : Addr) : Prop where
  scope : FnScope N [p] (defScope st)
  body : ∀ (base : Heap) (cdv : Value) (s : Shared) (G : Hp) (R : Root), Room k (callerA.deeper (envOfC x (defScope st) s.heap.objs.size f cdv)) →
    ∃ b : DS, PDSs (cxOf CX0 P w K mg base N x (defScope st) f cdv callerA [] s G E0).nox R (defBody st) b ∧ ∀ (ns : List Int), ns.length ≤ 63 → b { nx := fun _ => False, rt := fun d _ => d = .bool true } (startD N [.list (ns.map .int)])
theorem law_at {st : Stmt} {x p : Str} {N : List Str} {k : Nat} {f a : Addr} {fd : FuncData} {base : Heap} {s : Shared} {G : Hp} {ns : List Int} (F : Fun K x x st f fd) (L : LawBody P w K mg st x p N k f) (few : ns.length ≤ 63) (room : Room (k + 1) callerA) (en : Env0 P w K mg base callerA [] s G)
    (bind : ∀ (z : Shared) (u : Value), BindsTo z fd ⟨[u], []⟩ [(p, u)]) (script : SqX K G a (ns.map V.int)) : codeAny (model P w) callerA (.call (.ref f) ⟨[.ref a], []⟩) (CR CX0 [] P w G s (fun v _ => v = .bl true) E0) s := by
  obtain ⟨o1, o2, o3, o4, o5, o6, cdv, o7, o8, efd, there, code⟩ := F.ex
  subst efd
  have S := L.scope
  have here : K.In s.heap := en.mod.kin.keeps fun c u q => (en.bs c u q).1
  have kinds : ∀ y ∈ [p].zip [Value.ref a], (defScope st).names.lookup y.1 = some .local ∨ ((defScope st).names.lookup y.1 = some .cell ∧ ((cellsFrom (s.heap.objs.size + 1) (defScope st).names []).lookup y.1).isSome = true) := by
    rintro ⟨m, u⟩ hy
    exact (S.par m (List.of_mem_zip hy).1).imp id fun q => ⟨q, PySem.W.cellsFrom_some _ _ _ (.inl q)⟩
  refine codeAny_call_function room.depth (here _ _ there) rfl S.co S.gen rfl (PySem.W.codeRec_of here code) (bind s (.ref a) _ _ _ _ (wpAny_newFunctionEnv_cells S.kind kinds fun env same s1 inn => ?_))
  subst same
  refine ⟨PySem.Heap.NoLimit.keeps (en.mod.nolimit.keeps fun c u q => (en.bs c u q).1) inn.toInCall.keep, codeAny_func ?_⟩
  obtain ⟨b, hb, holds⟩ := L.body base cdv s G ⟨G, G, none⟩ (room.deeper _)
  have inv0 : L2.Inv (cxOf CX0 P w K mg base N x (defScope st) f cdv callerA [] s G E0) [] (start N [V.ref a]) G s1 := inv_start S room.hd en rfl (.cons rfl .nil) inn
  have dp : DpAll K G [V.ref a] [.list (ns.map .int)] := .cons (.lst script (dpAll_ints ns)) .nil
  have ends : liftS K ⟨G, G, none⟩ b { nx := fun _ _ => False, rt := fun v _ => v = .bl true } (start N [V.ref a]) G := by
    refine ⟨startD N [.list (ns.map .int)], G, rep_start (fun _ _ e => e) dp, hb.mono { nx := fun _ => False, rt := fun d _ => d = .bool true } _ _ ⟨fun _ z => False.elim z, fun d Γ z v σ' H' D' _ _ q => ?_, fun _ z => False.elim z, fun _ z => False.elim z⟩ (holds ns few)⟩
    have z : d = .bool true := z
    subst z
    cases q
    rfl
  refine wpAny_mono ((hb.pss.nox).run [] s1 _ G _ inv0 ends) (fun fl s2 got => ?_) fun _ _ e => e
  cases fl with
  | ret u =>
    obtain ⟨v, σ2, H2, J, rv, q⟩ := got
    exact ⟨v, H2, J.os, J.bare, J.base, J.hok, rv, q⟩
  | next =>
    obtain ⟨_, _, _, q⟩ := got
    exact q.elim
  | brk =>
    obtain ⟨_, _, _, q⟩ := got
    exact q.elim
  | cont =>
    obtain ⟨_, _, _, q⟩ := got
    exact q.elim
abbrev scrO (vs : List Value) : Obj := { cls := .type "list", data := .seq vs.toArray }
structure Entry (K : PySem.W.Frag) (a : Addr) (vs : List Value) (ns : List Int) (G : Hp) : Prop where
  only : ∀ b u, G b = some u → b = a ∧ K.lookup a = none ∧ u = .frz (scrO vs) (.lst (ns.map V.int))
  seq : SqX K G a (ns.map V.int)
theorem entry_of {h : Heap} {a : Addr} {vs : List Value} {ns : List Int} (inK : K.In h) (ha : h.get? a = some (scrO vs)) (hi : IntsAre vs ns) (few : ns.length ≤ 63) : ∃ G, Entry K a vs ns G := by
  have vals := vals_ints hi
  cases q : K.lookup a with
  | some o =>
    have same := inK a o q
    rw [ha] at same
    cases same
    exact ⟨fun _ => none, ⟨fun b u z => (nomatch z), .inr ⟨vs, _, q, by rw [List.length_map]; exact Nat.le_trans few (by decide), vals⟩⟩⟩
  | none =>
    refine ⟨fun b => if b = a then some (.frz (scrO vs) (.lst (ns.map V.int))) else none, ⟨fun b u z => ?_, .inl (.inr ⟨scrO vs, if_pos rfl⟩)⟩⟩
    split at z
    · rename_i e
      exact ⟨e, q, (Option.some.inj z).symm⟩
    · cases z
theorem law_go {mb : Str → Option Value} {fa a : Addr} {s : Shared} {vs : List Value} {ns : List Int} (inK : K.In s.heap) (names : s.heap.Ns mainGlobals mg) (blts : s.heap.Ns builtinsNs mb) (boot : ∀ x : Str, x ≠ "__name__" → mb x = bootBuiltins x) (free : s.heap.NoLimit) (nogen : s.gens = #[])
    (ha : s.heap.get? a = some (scrO vs)) (hi : IntsAre vs ns) (few : ns.length ≤ 63)
    (run : ∀ (base : Heap) (G : Hp), SqX K G a (ns.map V.int) → Env0 P w K mg base callerA [] s G → codeAny (model P w) callerA (.call (.ref fa) ⟨[.ref a], []⟩) (CR CX0 [] P w G s (fun v _ => v = .bl true) E0) s) :
    codeAny (model P w) callerA (.call (.ref fa) ⟨[.ref a], []⟩) (fun r t => r = .ok (.ret (.bool true)) ∧ OldK s.heap t.heap ∧ t.os = s.os ∧ AllBare t.gens) s := by
  obtain ⟨G, en⟩ := entry_of inK ha hi few
  have clear : ∀ {b : Addr} {o : Obj}, s.heap.get? b = some o → (b = a → False) → (hidT s.heap G).get? b = some o := fun {b o} e n => hidT_get e (by
    cases q : G b with
    | none => rfl
    | some u => exact (n (en.only b u q).1).elim)
  have nsOk : ∀ {b : Addr} {m : Str → Option Value}, s.heap.Ns b m → (hidT s.heap G).Ns b m := fun {b m} ⟨o, es, ep, e, d, r⟩ => ⟨o, es, ep, clear e (fun z => by
    subst z
    rw [ha] at e
    cases e
    cases (d : Data.seq vs.toArray _ = Data.dict es ep)), d, r⟩
  have baseK : K.In (hidT s.heap G) := fun b o q => hidT_get (inK b o q) (by
    cases z : G b with
    | none => rfl
    | some u =>
      obtain ⟨e1, e2, _⟩ := en.only b u z
      subst e1
      rw [e2] at q
      cases q)
  have hok : HOk P w G s.heap := fun b u z => by
    obtain ⟨e1, _, e3⟩ := en.only b u z
    subst e1 e3
    exact ⟨ha, by rw [List.length_map]; exact Nat.le_trans few (by decide), vs, _, vals_ints hi, ha⟩
  have modOk : Mod K mg (hidT s.heap G) := ⟨baseK, nsOk names, ⟨mb, nsOk blts, boot⟩, by
    obtain ⟨m, y1, y2⟩ := free
    exact ⟨m, nsOk y1, y2⟩⟩
  have env : Env0 P w K mg (hidT s.heap G) callerA [] s G := ⟨rfl, modOk, fun _ _ e => of_hidT e, Nat.le_of_eq (hidT_size _ _), trivial, fun b hb => (nomatch hb), hok, .of_eq nogen⟩
  refine codeAny_mono (run _ G en.seq env) fun r t got => ?_
  rcases r with e | fl
  · exact False.elim got
  · cases fl with
    | ret u =>
      obtain ⟨v, G', os, bare, un, hok', rv, isT⟩ := got
      have isT : v = .bl true := isT
      subst isT
      obtain rfl : u = Value.bool true := rv
      refine ⟨rfl, OldK.of_keep fun b o e => ?_, os, bare⟩ -- k01
      cases q : G b with
      | none => exact un.keep b o e q (fun z => nomatch z) (by simp)
      | some w' =>
        obtain ⟨e1, _, e3⟩ := en.only b w' q
        subst e1 e3
        have now := (hok' b _ (un.frzs b _ _ q)).1
        rw [ha] at e
        cases e
        exact now
    | next => exact False.elim got
    | brk => exact False.elim got
    | cont => exact False.elim got
theorem walkG {l : PySem.W.OpenLaw} {q : Program} {loose : List Str} {XP : (Str → Option Value) → Heap → Prop} {YP : World → Heap → Prop} {d : DefRec} {K : Params → PySem.W.Frag} {st : Stmt} {x p : Str} {N : List Str} {k : Nat}
    (most : l.most = some 63) (hdf : d.params.defaults = []) (room : Room (k + 1) callerA) (hY : ∀ (w : World) (h : Heap), YP w h → (K w.params).In h)
    (F : ∀ (w : World) (mg : Str → Option Value) (fa : Addr) (h : Heap), (K w.params).In h → h.Ns mainGlobals mg → mg d.name = some (.ref fa) →
      ∃ fd : FuncData, (∀ (s : Shared) (u : Value), BindsTo s fd ⟨[u], []⟩ [(p, u)]) ∧ Fun (K w.params) x x st fa fd ∧ LawBody l.prog w (K w.params) mg st x p N k fa) :
    PySem.W.WalkO q loose XP YP l.row.toRowW d [] (fun f vs => PySem.call f vs) := by -- k01
  refine Att.attach_call most hdf fun w s₀ s₁ mg mb fa o pm cd doc a vs ns G Y ho hd hcd named isObj isInts few gens => ?_
  have inK := hY w _ Y
  obtain ⟨fd, bind, fn, body⟩ := F w mg fa _ inK G.T.g named
  exact law_go inK G.T.g G.T.b G.T.builtins G.T.nolimit gens isObj isInts few fun base H script env => law_at fn body few room env bind script
end
end DL

set_option Elab.async false
set_option linter.all false
set_option maxRecDepth 100000

namespace DL
open PySem PySem.Spec PyProof.Rows L2

abbrev titO (t : Addr) : Obj := { cls := .type "tuple_iterator", data := .fields #[.ref t, .int 0 0] }
abbrev enuO (it : Addr) : Obj := { cls := .type "enumerate", data := .fields #[.none, .bool false, .ref it, rawInt 0, .none, .none] }
set_option maxHeartbeats 1000000 in
theorem meets_enumT (t : Addr) (its : Array Value) : Meets (Builtin.«enumerate.__new__» ⟨[.type "enumerate", .ref t], []⟩) (fun _ R s => s.heap.IsTuple t its ∧ R (.ok (.ret (.ref (s.heap.push (titO t)).objs.size))) { s with heap := (s.heap.push (titO t)).push (enuO s.heap.objs.size) }) :=
  .of_wp fun prog w A R s ⟨isT, fin⟩ => by
    obtain ⟨hp, gg, dd, tt, oo⟩ := s
    have hsub := sub_enumerate
    have q1 : ∀ {A' : Around} {E : Value → Shared → Prop} {Q : Value → Shared → Prop}, Q (.ref hp.objs.size) ⟨hp.push (titO t), gg, dd, tt, oo⟩ → wpAny (model prog w) A' (pyIter (.ref t)) Q E ⟨hp, gg, dd, tt, oo⟩ :=
      fun z => (begins_tuple t its).iter prog w _ _ ⟨hp, gg, dd, tt, oo⟩ _ isT z
    wp_walk using q1
    refine wpAny_stack_any fun _ => wpAny_pure ?_
    split
    · rename_i c _ _ _ _ _
      cases (c == Value.type "enumerate") <;> (wp_walk using q1; exact ⟨_, rfl, fin⟩)
    · wp_walk using q1
      exact ⟨_, rfl, fin⟩
theorem call_enumT {prog : Program} {w : World} {A : Around} {E : Value → Shared → Prop} {s : Shared} {t : Addr} {its : Array Value} {Q : Value → Shared → Prop} (isT : s.heap.IsTuple t its)
    (k : ∀ h', IsEnum h' (s.heap.objs.size + 1) s.heap.objs.size 0 .none → h'.IsTupleIter s.heap.objs.size t 0 → (∀ b o, s.heap.get? b = some o → h'.get? b = some o) → Q (.ref (s.heap.objs.size + 1)) { s with heap := h' }) :
    wpAny (model prog w) A (call (.type "enumerate") [.ref t]) Q E s := by
  have sz : (s.heap.push (titO t)).objs.size = s.heap.objs.size + 1 := Heap.size_push ..
  have top : IsEnum ((s.heap.push (titO t)).push (enuO s.heap.objs.size)) (s.heap.objs.size + 1) s.heap.objs.size 0 .none := by
    have z := Heap.get?_push_size (s.heap.push (titO t)) (o := enuO s.heap.objs.size) rfl
    rw [sz] at z
    exact z
  refine callType_new F.called_enumerate (by decide) (F.typeCall_enumerate_1 _) (F.newCall_enumerate_1 _) (fun obj => F.args_object_init_2 obj _) F.entry_enumerate_new (meets_enumT t its) ⟨isT, ?_⟩
  show _ ∧ _
  rw [sz]
  exact ⟨⟨_, top, rfl⟩, k _ top ⟨_, Heap.get?_push_of_some _ (Heap.get?_push_size _ rfl), rfl, rfl⟩ fun b o z => Heap.get?_push_of_some _ (Heap.get?_push_of_some _ z)⟩
def IteT (K : PySem.W.Frag) (a : Addr) : It :=
  ⟨fun i H => ∃ (xs : List V) (x : V), SqT K H a xs ∧ xs[i]? = some x, fun i H v H' => ∃ T x, v = .ref T ∧ H T = none ∧ H' = upd H T (.tup [.int (i : Nat), x]) ∧ ∀ xs, SqT K H a xs → xs[i]? = some x, fun i H => ∃ xs : List V, SqT K H a xs ∧ xs.length ≤ i⟩
theorem turn_enumT {P : Program} {w : World} {K : PySem.W.Frag} {elts : List Expr} {kk : Nat} {tpos : Pos} (a e it : Addr) :
    Turn P w K (.Tuple elts kk tpos) (IteT K a) [e, it] e (fun i h => (∃ old, IsEnum h e it ((i : Nat) : Int) old) ∧ h.IsTupleIter it a i ∧ e ≠ it) where
  mem := List.mem_cons_self
  obj := fun i h ⟨⟨old, he⟩, ⟨o, ho, _, hd⟩, _⟩ b hb => by
    rcases List.mem_cons.mp hb with z | z -- k01
    · exact ⟨_, by rw [z]; exact he, fun v q => by cases q⟩
    · exact ⟨o, by rw [List.mem_singleton.mp z]; exact ho, fun v q => by rw [hd] at q; cases q⟩
  keep := fun i h h' ⟨⟨old, he⟩, hi, ne⟩ k => ⟨⟨old, k e (by simp) _ he⟩, hi.at fun o q => k it (by simp) o q, ne⟩
  item := by
    rintro X rfl rfl rfl calm i pins s σ H E I hf ⟨⟨old, he⟩, hit, ne⟩ ⟨xs, x, isS, there⟩
    obtain ⟨its, vals, isT, _⟩ := I.tuple isS
    obtain ⟨u, hu, ru⟩ := vals.get there
    have apart : a ≠ it ∧ e ≠ a := by
      obtain ⟨o1, g1, c1, _⟩ := isT
      obtain ⟨o2, g2, c2, _⟩ := hit
      refine ⟨fun z => ?_, fun z => ?_⟩ -- k01
      · subst z
        rw [g1] at g2
        cases g2
        rw [c1] at c2
        injection c2 with z
        exact absurd z (by decide)
      · subst z
        have g3 : s.heap.get? e = some _ := he
        rw [g1] at g3
        cases g3
        injection c1 with z
        exact absurd z (by decide)
    have lt_e : e < s.heap.objs.size := Heap.lt_size he
    have lt_it : it < s.heap.objs.size := Heap.lt_size hit.choose_spec.1
    have lt : i < its.toArray.size := by
      have := (List.getElem?_eq_some_iff.mp hu).1
      simpa using this
    refine wpAny_pyNext_enum_itemC (Draws.tuple (A := X.A.in1) (I.ok.hd calm) it a apart.1 its.toArray) he ⟨hit, isT⟩ lt ne (by simp [ne, apart.2]) fun y h' tk py out st cell _ kept => ?_
    obtain rfl : y = u := by
      have z : its.toArray[i]? = some y := py
      rw [List.getElem?_toArray, hu] at z
      exact (Option.some.inj z).symm
    refine ⟨_, rfl, wpAny_letOwnedTupleGo_enum (s := { s with heap := h', toks := tk + 1 }) out fun h2 he2 but => ?_⟩
    have cell2 : h2.get? s.heap.objs.size = some { cls := .type "tuple", data := .seq #[.int ((i : Nat) : Int) tk, y] } := (but.2 _ (Nat.ne_of_gt lt_e)).trans cell
    have fresh : ObjOk X.prog X.w (upd H s.heap.objs.size (.tup [.int (i : Nat), x])) h2 s.heap.objs.size (.tup [.int (i : Nat), x]) := ⟨by show 2 ≤ sizeLine; decide, [.int ((i : Nat) : Int) tk, y], .cons ⟨_, rfl⟩ (.cons ru .nil), ⟨_, cell2, rfl, _, rfl⟩⟩
    have I2 : L2.Inv X pins σ (upd H s.heap.objs.size (.tup [.int (i : Nat), x])) { s with heap := h2, toks := tk + 1 } :=
      I.turnedNew (ch := [e, it]) (fun b ob nb q => by
        have n1 : b ≠ e := fun z => nb (by simp [z])
        have n2 : b ≠ it := fun z => nb (by simp [z])
        exact (but.2 b n1).trans (kept b ob n1 n2 q)) hf (Nat.le_refl _) fresh
    refine ⟨.ref s.heap.objs.size, _, I2, rfl, ⟨_, x, rfl, I.hok.fresh (Nat.le_refl _), rfl, fun l hl => by rw [I.tuple_inj hl isS]; exact there⟩, ⟨⟨y, ?_⟩, st.1.at fun o q => (but.2 it (Ne.symm ne)).trans q, ne⟩, fun b hb => ?_⟩
    · rw [show ((i + 1 : Nat) : Int) = ((i : Nat) : Int) + 1 by omega]
      exact he2
    · have small : b < s.heap.objs.size := by
        rcases List.mem_cons.mp hb with z | z -- k01
        · rw [z]; exact lt_e
        · rw [List.mem_singleton.mp z]; exact lt_it
      rw [upd_ne (Nat.ne_of_lt small)]
      exact (hf b hb).1
  done := by
    rintro X rfl rfl rfl calm i pins s σ H E I hf ⟨⟨old, he⟩, hit, ne⟩ ⟨xs, isS, le⟩
    obtain ⟨its, vals, isT, _⟩ := I.tuple isS
    obtain ⟨f0, f1, f2, f3, f4, f5⟩ := hf it (by simp) -- k01
    have D0 : Draws X.prog X.w X.A.in1 it [it, a] 0 (fun _ _ => True) (fun j h => h.IsTupleIter it a (i + j) ∧ h.IsTuple a its.toArray) :=
      { live := fun _ _ st => ⟨_, st.1.choose_spec.1⟩
        frame := fun _ _ _ st k => ⟨st.1.at fun o q => k it (by simp) o q, st.2.at fun o q => k a (by simp) o q⟩
        item := fun j _ _ _ lt => absurd lt (Nat.not_lt_zero j)
        done := fun s2 Q2 E2 st k => wpAny_nextOf_tuple_end (I.ok.hd calm) st.1 st.2 (by
          have := vals.length
          simp
          omega) k }
    exact wpAny_pyNext_enum_endD D0 he ⟨hit, isT⟩ fun h' eb => ⟨rfl, I.turned (t' := s.toks) (fun b o nb q => eb b o nb q) f0 f1 f3 f4 f5⟩
  self := fun A i s Q E ⟨⟨_, he⟩, _⟩ h => wpAny_pyIter_enum he h
section
variable {X : Cx} {R : Root} {K : PySem.W.Frag}
def bNeS : PyData → PyData → (PyData → Prop) → Prop := fun d e Q => match d, e with | .str a, .str b => Q (.bool (!decide (a = b))) | _, _ => False
def bEqS : PyData → PyData → (PyData → Prop) → Prop := fun d e Q => match d, e with | .str a, .str b => Q (.bool (decide (a = b))) | _, _ => False
theorem bNeS_mono : MonoB bNeS := fun d e W W' m h => by
  unfold bNeS at h ⊢
  split at h
  · exact m _ h
  · exact h
theorem bEqS_mono : MonoB bEqS := fun d e W W' m h => by
  unfold bEqS at h ⊢
  split at h
  · exact m _ h
  · exact h
theorem dec_strV {a b : Str} : decide (V.str a = V.str b) = decide (a = b) := by
  rw [Bool.eq_iff_iff]
  simp
theorem bNeS_ok : OpD K rNe bNeS := fun D H x y d e Q u hx hy h => by
  unfold bNeS at h
  split at h
  · cases hx
    cases hy
    refine ⟨rfl, ?_⟩
    rw [dec_strV]
    exact bool_out u h
  · exact h.elim
theorem bEqS_ok : OpD K rEq bEqS := fun D H x y d e Q u hx hy h => by
  unfold bEqS at h
  split at h
  · cases hx
    cases hy
    refine ⟨rfl, ?_⟩
    rw [dec_strV]
    exact bool_out u h
  · exact h.elim
theorem pdt_neS {a b : Expr} {pos : Pos} {da db : DE} (ha : PDE X R a da) (hb : PDE X R b db) : PDT X R (.Compare a [.NotEq] [b] pos) (dTest (dOp bNeS da db)) := pdt_cmp op_ne bNeS_ok bNeS_mono ha hb (nomark _)
theorem pde_eqS {a b : Expr} {pos : Pos} {da db : DE} (ha : PDE X R a da) (hb : PDE X R b db) : PDE X R (.Compare a [.Eq] [b] pos) (dOp bEqS da db) := pd_cmp op_eq bEqS_ok bEqS_mono ha hb (nomark _)
theorem itd_enumT {D : Hp} {a : Addr} {xs : List V} {ds : List PyData} (h : SqT K D a xs) (hd : DpAll K D xs ds) : ItD K (IteT K a) D (enums ds) := by
  have el := dpAll_len hd
  refine ⟨fun i H D1 s u hi => ?_, fun H D1 s u => ⟨xs, sqT_mono (same_sub s u) h, by rw [enums_len]; omega⟩, fun i H D1 x H' s u hi y => ?_⟩
  · rw [enums_len] at hi
    exact ⟨xs, xs[i], sqT_mono (same_sub s u) h, List.getElem?_eq_getElem (by omega)⟩
  · rw [enums_len] at hi
    obtain ⟨T, z, e1, e2, e3, y⟩ := y
    subst e1 e3
    obtain ⟨d, f1, f2⟩ := dpAll_getV hd (y xs (sqT_mono (same_sub s u) h))
    obtain ⟨g, q⟩ := upd_pair (K := K) u e2 (.int (i : Nat)) (dp_mono s f2)
    refine ⟨_, _, g, ?_, q⟩
    unfold enums
    rw [List.getElem?_map, List.getElem?_range hi]
    show some (PyData.tuple [PyData.int (i : Nat), ds.getD i PyData.none]) = _
    rw [List.getD_eq_getElem?_getD, f1]
    rfl
def dEnumT (a : DA) : DI := fun Γ Q => a Γ fun ds Γ1 => match ds with | [.tuple es] => Q (enums es) Γ1 | _ => False
theorem pdi_enumT {e : Expr} {p pos tpos : Pos} {elts : List Expr} {kk : Nat} {a : DA} (hg : Gl X "enumerate") (hm : X.mg "enumerate" = none) (ha : PDA X R [e] a) (hs : starEach [e] X.env = [(false, eval e X.env)] := by rfl) :
    PDI X R (.Tuple elts kk tpos) (.Call (.Name "enumerate" p) [e] [] pos) (dEnumT a) := by
  refine ⟨⟨fun pins s σ H RR I q => ?_⟩, fun Γ W W' m h => ha.mono Γ _ _ (fun ds Γ1 q => by
    split at q
    · exact m _ _ q
    · exact q) h⟩
  obtain ⟨Γ, D, r0, q⟩ := q
  have q' : liftA X.K R a σ H fun vs H1 => ∃ (t : Addr) (xs : List V) (es : List PyData) (Γ1 : DEnv) (D1 : Hp), vs = [.ref t] ∧ SqT X.K D1 t xs ∧ DpAll X.K D1 xs es ∧ Rep X.K R σ H1 Γ1 D1 ∧ (∀ J H' D', Rep X.K R σ H' Γ1 D' → Step σ Γ D H Γ1 D' H' → ItD X.K J D' (enums es) → RR J H') ∧ Step σ Γ D H Γ1 D1 H1 :=
    goA r0 ha.mono q fun ds Γ1 vs H1 D1 h1 r1 st q1 => by
      split at h1
      · cases q1 with
        | cons x y =>
          cases y
          cases x with
          | tup sq al => exact ⟨_, _, _, Γ1, D1, rfl, sq, al, r1, h1, st⟩
      · exact h1.elim
  refine Call_ (ld_blt I hg hm boot_enumerate (PyProof.Rows.callWith_type1 (thn (ha.pa.run pos pins s σ H _ I q') fun us s1 ⟨vs, H1, I1, rv, t, xs, es, Γ1, D1, ev, sq, al, r1, fin, st⟩ => ?_) hs rfl))
  subst ev
  obtain ⟨u, rfl, ru⟩ := rv.one
  cases ru
  have sqH : SqT X.K H1 t xs := sqT_mono (fun b o e => r1.sub b o e) sq
  obtain ⟨its, _, isT, _⟩ := I1.tuple sqH
  refine call_enumT isT fun h' en hit keep => wpAny_pyIter_enum en ?_
  have I2 : L2.Inv X pins σ H1 { s1 with heap := h' } := I1.kept (t' := s1.toks) keep
  refine ⟨s1.heap.objs.size + 1, [s1.heap.objs.size + 1, s1.heap.objs.size], _, IteT X.K t, H1, rfl, I2, turn_enumT t (s1.heap.objs.size + 1) s1.heap.objs.size, ⟨⟨.none, en⟩, hit, Nat.succ_ne_self _⟩, fun b hb => ?_, fin _ H1 D1 r1 st (itd_enumT sq al)⟩
  have le : s1.heap.objs.size ≤ b := by
    rcases List.mem_cons.mp hb with z | z -- k01
    · rw [z]; exact Nat.le_add_right _ _ -- k01
    · rw [List.mem_singleton.mp z]; exact Nat.le_refl _
  exact I1.fpOk le (I1.hok.fresh le)
theorem vals_of : ∀ (xs : List V) (us : List Value), xs.length = us.length → (∀ (i : Nat) (x : V) (u : Value), xs[i]? = some x → us[i]? = some u → RelV x u) → Vals xs us
  | [], [], _, _ => .nil
  | [], _ :: _, e, _ => by simp at e
  | _ :: _, [], e, _ => by simp at e
  | x :: xs, u :: us, e, h => .cons (h 0 x u rfl rfl) (vals_of xs us (by simpa using e) fun i y w e1 e2 => h (i + 1) y w (by simpa using e1) (by simpa using e2))
def dTupleS (a : DE) : DE := fun Γ Q => a Γ fun d Γ1 => match d with | .str x => x.length ≤ 1000000 ∧ Q (.tuple (signs x)) Γ1 | _ => False
theorem pde_tupleS {e : Expr} {p pos : Pos} {a : DE} (hc : X.calm = true) (ha : PDE X R e a) (hm : X.mg "tuple" = none) (hg : Gl X "tuple" := by rfl) (he : starEach [e] X.env = (false, eval e X.env) :: starEach [] X.env := by rfl) (hpl : (backTo pos (starEach [] X.env)).any (·.1) = false := by rfl) :
    PDE X R (.Call (.Name "tuple" p) [e] [] pos) (dTupleS a) := by
  refine ⟨⟨fun pins s σ H Q I q => ?_⟩, fun Γ W W' m h => ha.mono Γ _ _ (fun d Γ1 q => by cases d <;> first | exact ⟨q.1, m _ _ q.2⟩ | exact q) h⟩
  obtain ⟨Γ, D, r0, q⟩ := q
  have q' : liftE X.K R a σ H fun y H2 => ∃ (z : Str) (Γ2 : DEnv) (D2 : Hp), y = .str z ∧ z.length ≤ 1000000 ∧ Rep X.K R σ H2 Γ2 D2 ∧ Step σ Γ D H Γ2 D2 H2 ∧ ∀ v H' D', Rep X.K R σ H' Γ2 D' → Step σ Γ D H Γ2 D' H' → Dp X.K D' v (.tuple (signs z)) → Q v H' := goE r0 ha.mono q fun dd Γ1 v H1 D1 h1 r1 st q1 => by
    cases q1 with
    | str z => exact ⟨z, Γ1, D1, rfl, h1.1, r1, st, h1.2⟩
    | non => exact h1.elim
    | bl _ => exact h1.elim
    | int _ => exact h1.elim
    | lst _ _ => exact h1.elim
    | tup _ _ => exact h1.elim
  refine Call_ (ld_blt I hg hm boot_tuple (PyProof.Rows.callWith_type1 (one_arg ha.pe I q' (fun v s2 x H2 I2 rx ⟨z, Γ2, D2, ex, lz, r2, st2, fin⟩ => ?_) he) he))
  subst ex
  obtain ⟨t, rfl⟩ := rx
  refine call_tuple_str (I2.ok.hd hc) z t (fun h' tk acc hk items => ?_) (Nat.le_trans lz (by decide))
  have I3 : L2.Inv X pins σ H2 { s2 with heap := h', toks := tk } := I2.kept (t' := tk) hk
  have vals : Vals (z.cps.toList.map fun c => V.str ⟨#[c]⟩) acc.toList := by
    refine vals_of _ _ (by rw [List.length_map, Array.length_toList, Array.length_toList, items.1]) fun i x u e1 e2 => ?_
    rw [Array.getElem?_toList] at e2
    obtain ⟨c, w, e3, e4⟩ := items.2 i u e2
    rw [List.getElem?_map, Array.getElem?_toList, e3] at e1
    cases e1
    exact ⟨w, e4⟩
  have lim : (z.cps.toList.map fun c => V.str ⟨#[c]⟩).length ≤ sizeLine := by
    rw [List.length_map, Array.length_toList] -- k01
    exact Nat.le_trans lz (by decide)
  have new : H2 h'.objs.size = none := I3.hok.fresh (Nat.le_refl _)
  have I4 : L2.Inv X pins σ (upd H2 h'.objs.size (.tup (z.cps.toList.map fun c => V.str ⟨#[c]⟩))) { s2 with heap := h'.push { cls := .type "tuple", data := .seq acc }, toks := tk } :=
    I3.laid (t' := tk) (fun b o e => Heap.get?_push_of_some _ e) (Nat.le_refl _) (show ObjOk X.prog X.w _ _ _ (.tup _) from ⟨lim, acc.toList, vals, IsTup.new _ _⟩)
  have g := Grow.upd (o := .tup (z.cps.toList.map fun c => V.str ⟨#[c]⟩)) r2.sub new
  refine ⟨.ref h'.objs.size, _, I4, rfl, fin _ _ _ (r2.grow g) (st2.trans g.step) (.tup (SqT.of upd_same) ?_)⟩
  unfold signs
  have all : ∀ l : List Nat, DpAll X.K (upd D2 h'.objs.size (.tup (z.cps.toList.map fun c => V.str ⟨#[c]⟩))) (l.map fun c => V.str ⟨#[c]⟩) (l.map fun c => PyData.str ⟨#[c]⟩) := fun l => by
    induction l with
    | nil => exact .nil
    | cons a r ih => exact .cons (.str _) ih
  exact all _
end
end DL

set_option Elab.async false
set_option linter.all false
set_option maxRecDepth 100000

namespace DL
open PySem PySem.Spec PyProof.Rows L2
section
variable {X : Cx} {R : Root} {σ : L2.St} {H D : Hp} {Γ : DEnv} {K : PySem.W.Frag}
def dPopAt (i : Nat) (a : DE) : DE := fun Γ Q => match Γ[i]? with
  | some (some (Ent.own _)) => a Γ fun j Γ1 => match j, Γ1[i]? with
    | .int n, some (some (Ent.own ds)) => 0 ≤ n ∧ n < ds.length ∧ ds.length ≤ 1000000 ∧ ∃ d, ds[n.toNat]? = some d ∧ Q d (Γ1.set i (some (Ent.own (ds.eraseIdx n.toNat))))
    | _, _ => False
  | _ => False
theorem dpAll_erase {K : PySem.W.Frag} {D : Hp} : ∀ {ds : List PyData} {vs : List V} (i : Nat), DpAll K D vs ds → DpAll K D (vs.eraseIdx i) (ds.eraseIdx i)
  | [], _, _, h => by cases h; exact .nil
  | _ :: _, _, 0, h => by
    cases h with
    | cons a b => exact b
  | _ :: _, _, i + 1, h => by
    cases h with
    | cons a b => exact .cons a (dpAll_erase i b)
theorem pde_popAt {y : Str} {py apos cpos : Pos} {e : Expr} {a : DE} (i : Nat) (he : PDE X R e a) (hN : X.N[i]? = some y := by rfl) (hv : Vis X.env.scope y := by first | exact Or.inl rfl | exact Or.inr (Or.inl rfl) | exact Or.inr (Or.inr rfl)) (hd : (y == ("__debug__" : Str)) = false := by decide)
    (hcd : (y == ("__classdict__" : Str)) = false := by decide) (hbase : attributeBase (.Name y py) "pop" X.env (eval (.Name y py) X.env) = eval (.Name y py) X.env := by rfl)
    (hfew : ((backTo cpos (starEach [e] X.env)).all (fun x => !x.1) && (backToKw cpos (keywordEach [] X.env)).all (fun x => x.1.isSome) && decide ([e].length + ([] : List Keyword).length + (if ([] : List Keyword).isEmpty then 0 else 1) < 30)) = true := by rfl)
    (hline : (apos.endLine == cpos.line) = true := by rfl) (hs : starEach [e] X.env = (false, eval e X.env) :: starEach [] X.env := by rfl) (hplain : (backTo cpos (starEach [] X.env)).any (·.1) = false := by rfl) : -- k01
    PDE X R (.Call (.Attribute (.Name y py) "pop" apos) [e] [] cpos) (dPopAt i a) := by
  refine ⟨pe_imp (pe_bm PySem.F.plainAttrs_list PySem.F.slot_list_pop PySem.F.type_list_pop mt_popAt (pe_var hN hv hd hcd) (pa_cons he.pe pa_nil hs) hbase hfew hline hs hplain) fun σ H Q ⟨Γ, D, r, q⟩ => ?_, fun Γ W W' m h => ?_⟩
  · unfold dPopAt at q
    split at q
    · rename_i fs0 e0
      obtain ⟨b, xs0, o1, o2, o3, o4, o5⟩ := r.own i fs0 e0
      refine ⟨.ref b, o1, tyV_list o2, goE r he.mono q fun d Γ1 v H1 D1 h1 r1 s1 q1 => ?_⟩
      split at h1
      · rename_i n ds e1
        obtain ⟨n0, n1, few, d, hd', h1⟩ := h1
        obtain ⟨b', xs, p1, p2, p3, p4, p5⟩ := r1.own i ds e1
        rw [o1] at p1
        obtain rfl : b = b' := by cases p1; rfl
        cases q1
        obtain ⟨u, hu, du⟩ := dpAll_get p4 hd'
        have hl := dpAll_len p4
        refine ⟨b, xs, n, n.toNat, u, rfl, rfl, p2, by omega, by omega, ?_, hu, ?_⟩
        · unfold seqIndex?
          have z1 : ¬ n < 0 := by omega
          have z2 : (decide ((0 : Int) ≤ n) && decide (n < (xs.length : Int))) = true := by
            rw [decide_eq_true n0, decide_eq_true (by omega)]; rfl
          simp only [z1, if_false, z2, if_true]
        obtain ⟨r2, s2⟩ := r1.chg e1 o1 p2 (dpAll_erase n.toNat p4)
        exact h1 u _ _ r2 (s1.trans s2) (dp_mono s2.d du)
      · exact h1.elim
    · exact q.elim
  · unfold dPopAt at h ⊢
    split at h
    · exact he.mono Γ _ _ (fun d Γ1 q => by
        split at q
        · obtain ⟨n0, n1, few, d, e, q⟩ := q
          exact ⟨n0, n1, few, d, e, m _ _ q⟩
        · exact q) h
    · exact h
def dInsert (i : Nat) (b a : DE) : DS := fun E Γ => match Γ[i]? with
  | some (some (Ent.own _)) => b Γ fun j Γ1 => a Γ1 fun d Γ2 => match j, Γ2[i]? with
    | .int n, some (some (Ent.own ds)) => 0 ≤ n ∧ n < 1000000 ∧ ds.length < 1000000 ∧ E.nx (Γ2.set i (some (Ent.own (ds.take n.toNat ++ [d] ++ ds.drop n.toNat))))
    | _, _ => False
  | _ => False
theorem pds_insert {y : Str} {py apos cpos pos : Pos} {e e2 : Expr} {a b : DE} (i : Nat) (hb : PDE X R e b) (he : PDE X R e2 a) (hN : X.N[i]? = some y := by rfl) (hv : Vis X.env.scope y := by first | exact Or.inl rfl | exact Or.inr (Or.inl rfl) | exact Or.inr (Or.inr rfl)) (hd : (y == ("__debug__" : Str)) = false := by decide)
    (hcd : (y == ("__classdict__" : Str)) = false := by decide) (hbase : attributeBase (.Name y py) "insert" X.env (eval (.Name y py) X.env) = eval (.Name y py) X.env := by rfl)
    (hfew : ((backTo cpos (starEach [e, e2] X.env)).all (fun x => !x.1) && (backToKw cpos (keywordEach [] X.env)).all (fun x => x.1.isSome) && decide ([e, e2].length + ([] : List Keyword).length + (if ([] : List Keyword).isEmpty then 0 else 1) < 30)) = true := by rfl)
    (hline : (apos.endLine == cpos.line) = true := by rfl) (hs : starEach [e, e2] X.env = (false, eval e X.env) :: starEach [e2] X.env := by rfl) (hs2 : starEach [e2] X.env = (false, eval e2 X.env) :: starEach [] X.env := by rfl) (hplain : (backTo cpos (starEach [e2] X.env)).any (·.1) = false := by rfl)
    (hsw : swapsWith (.Call (.Attribute (.Name y py) "insert" apos) [e, e2] [] cpos) none pos.line X.env = pure false := by rfl) :
    PDS X R (.Expr (.Call (.Attribute (.Name y py) "insert" apos) [e, e2] [] cpos) pos) (dInsert i b a) := by
  refine ⟨ps_imp (ps_expr (pe_bm PySem.F.plainAttrs_list PySem.F.slot_list_insert PySem.F.type_list_insert mt_insert (pe_var hN hv hd hcd) (pa_cons hb.pe (pa_cons he.pe pa_nil hs2) hs) hbase hfew hline hs hplain) hsw) fun E σ H ⟨Γ, D, r, q⟩ => ?_, fun E E' Γ l h => ?_⟩
  · unfold dInsert at q
    split at q
    · rename_i fs0 e0
      obtain ⟨b0, xs0, o1, o2, o3, o4, o5⟩ := r.own i fs0 e0
      refine ⟨.ref b0, o1, tyV_list o2, goE r hb.mono q fun j Γ1 u H1 D1 h1 r1 s1 q1 => goE r1 he.mono h1 fun d Γ2 v H2 D2 h2 r2 s2 q2 => ?_⟩
      split at h2
      · rename_i n ds e1
        obtain ⟨n0, n1, few, h2⟩ := h2
        obtain ⟨b', xs, p1, p2, p3, p4, p5⟩ := r2.own i ds e1
        rw [o1] at p1
        obtain rfl : b0 = b' := by cases p1; rfl
        cases q1
        have hl := dpAll_len p4
        refine ⟨b0, xs, n, v, rfl, rfl, p2, by rw [hl]; exact Nat.lt_of_lt_of_le few (by decide), n0, by omega, ?_⟩
        obtain ⟨r3, s3⟩ := r2.chg e1 o1 p2 (dpAll_app (dpAll_app (dpAll_take n.toNat p4) (.cons q2 .nil)) (dpAll_drop n.toNat p4))
        exact h2 σ _ _ r3 ((s1.d.trans s2.d).trans s3.d)
      · exact h2.elim
    · exact q.elim
  · unfold dInsert at h ⊢
    split at h
    · exact hb.mono Γ _ _ (fun j Γ1 q => he.mono Γ1 _ _ (fun d Γ2 q => by
        split at q
        · exact ⟨q.1, q.2.1, q.2.2.1, l.nx _ q.2.2.2⟩
        · exact q) q) h
    · exact h
def repS (x : Str) (n : Nat) : Str := ⟨(List.replicate n x.cps).foldl (· ++ ·) #[]⟩
def rRepS : R2 := fun x y H Q => ∃ i k, x = .str i ∧ y = .int k ∧ 2 ≤ k ∧ k ≤ 1000000 ∧ 1 ≤ i.length ∧ i.length * k.toNat ≤ 1000000 ∧ Q (.str (repS i k.toNat)) H
theorem repS_len (x : Str) : ∀ n : Nat, (repS x n).length = x.length * n := fun n => by
  have g : ∀ (n : Nat) (z : Array Nat), ((List.replicate n x.cps).foldl (· ++ ·) z).size = z.size + x.cps.size * n := fun n => by
    induction n with
    | zero => intro z; simp
    | succ n ih =>
      intro z
      rw [List.replicate_succ, List.foldl_cons, ih, Array.size_append, Nat.mul_succ]
      omega
  show ((List.replicate n x.cps).foldl (· ++ ·) #[]).size = x.cps.size * n
  rw [g]
  simp
theorem op_repS : OpR X (binaryOp .Mult) rRepS := by
  intro pins s σ H x y v u Q I rx ry h -- k01
  obtain ⟨i, k, rfl, rfl, h1, h2, h3, h4, q⟩ := h
  obtain ⟨t, rfl⟩ := rx
  obtain ⟨t', rfl⟩ := ry
  have hk : (k == 1 || i.length == 0) = false := by
    rw [Bool.or_eq_false_iff]
    exact ⟨by simpa using (by omega : ¬ k = 1), by simpa using (by omega : ¬ i.length = 0)⟩
  have few : Builtin.Str.tooLong (i.length * k.toNat) = false := by
    unfold Builtin.Str.tooLong
    rw [decide_eq_false_iff_not]
    have : (1000000 : Nat) ≤ sizeLine := by decide
    omega
  refine PySem.P.mul_str (by rw [decide_eq_false (by omega), decide_eq_false (by omega)]; rfl) (fun _ _ => ?_) (fun _ _ => few) ?_
  · intro hh
    have a1 : (9223372036854775807 : Int) / k ≥ 9223372036854 := by
      have : (9223372036854 : Int) * k ≤ 9223372036854775807 := by omega
      exact (Int.le_ediv_iff_mul_le (by omega)).mpr this
    have a2 : (i.length : Int) ≤ 1000000 := by
      have : i.length * 1 ≤ i.length * k.toNat := Nat.mul_le_mul_left _ (by omega)
      omega
    have a3 : ((2 : Int) ^ 63 - 1) / k = 9223372036854775807 / k := congrArg (· / k) (by decide)
    rw [a3] at hh
    omega
  · rw [if_neg (by omega), hk]
    rw [if_neg Bool.false_ne_true] -- k01
    refine ⟨?_, .str _, H, I.kept (t' := _) (fun b ob q => q), ⟨_, rfl⟩, q⟩
    show (repS i k.toNat).length ≤ sizeLine
    rw [repS_len]
    exact szM h4
def bRepS : PyData → PyData → (PyData → Prop) → Prop := fun d e Q => match d, e with | .str x, .int k => (2 ≤ k ∧ k ≤ 1000000 ∧ 1 ≤ x.length ∧ x.length * k.toNat ≤ 1000000) ∧ Q (.str (repS x k.toNat)) | _, _ => False
theorem bRepS_mono : MonoB bRepS := fun d e W W' m h => by
  unfold bRepS at h ⊢
  split at h
  · exact ⟨h.1, m _ h.2⟩
  · exact h
theorem bRepS_ok : OpD K rRepS bRepS := fun D H x y d e Q u hx hy h => by
  unfold bRepS at h
  split at h
  · cases hx; cases hy
    exact ⟨_, _, rfl, rfl, h.1.1, h.1.2.1, h.1.2.2.1, h.1.2.2.2, str_out u h.2⟩
  · exact h.elim
theorem pde_repS {a b : Expr} {pos : Pos} {da db : DE} (ha : PDE X R a da) (hb : PDE X R b db) : PDE X R (.BinOp a .Mult b pos) (dOp bRepS da db) := pd_op op_repS bRepS_ok bRepS_mono ha hb
def dRevL (a : DE) : DA := fun Γ Q => a Γ fun d Γ1 => match d with | .list es => Q es.reverse Γ1 | _ => False
theorem pdl_rev {e : Expr} {k : Nat} {p1 p2 p3 pos : Pos} {a : DE} (ha : PDE X R e a) : PDL X R (.Subscript e (.Slice none none (some (.UnaryOp .USub (.Constant (.int 1) k p1) p2)) p3) pos) (dRevL a) := by
  refine ⟨pe_imp (pe_revL ha.pe) fun σ H Q ⟨Γ, D, r, q⟩ => ?_, fun Γ W W' m h => ha.mono Γ _ _ (fun d Γ1 q => by cases d <;> first | exact m _ _ q | exact q) h⟩
  refine goE r ha.mono q fun d Γ1 v H1 D1 h1 r1 s1 q1 => ?_
  cases q1 with
  | lst s al =>
    rename_i a' xs' ds'
    refine ⟨_, _, rfl, sqL_mono r1.sub s, fun l hl => ?_⟩
    have g := Grow.tmp (o := .lst xs'.reverse) r1.sub hl
    exact h1 l _ _ D1 (r1.grow g) (s1.trans g.step) (step_free s1 hl) upd_same (d_none r1.sub hl) (mine_no r1 hl) (dpAll_rev al)
  | _ => exact h1.elim
end
end DL
namespace L2
open HT PySem PySem.Spec PyProof.Rows
section
variable {prog : Program} {w : World} {A : Around} {E : Value → Shared → Prop} {s : Shared} -- k01
theorem adjust_back (n : Nat) : Builtin.Slice.sliceAdjust none none (-1) (n : Int) = ((n : Int) - 1, -1) := rfl
theorem places_back (n : Nat) : Builtin.Slice.slicePlaces ((n : Int) - 1) (-1) (-1) = n := by
  unfold Builtin.Slice.slicePlaces -- k01
  have h1 : ¬ ((-1 : Int) > 0) := by omega
  simp only [h1, if_false]
  rw [show (-(-1 : Int)) = 1 from rfl, Int.ediv_one]
  split <;> omega
theorem sliceApplied_back {sl : Addr} {vs : Value} {n : Nat} {Q : Int × Int × Nat → Shared → Prop} (hs : s.heap.IsSliceOf sl .none .none vs) (ps : IsPart vs (some (-1)))
    (h : Q ((n : Int) - 1, -1, n) s) : wpAny (model prog w) A (Builtin.Slice.sliceApplied (.ref sl) (pure (n : Int))) Q E s := by
  obtain ⟨os, hos, hcs, hds⟩ := id hs -- k01
  unfold Builtin.Slice.sliceApplied Builtin.Slice.sliceFields -- k01
  refine wpAny_bind (wpAny_bind (wpAny_field hos hds (x := .none) rfl (wpAny_bind (wpAny_field hos hds (x := .none) rfl (wpAny_bind (wpAny_field hos hds (x := vs) rfl (wpAny_pure ?_)))))))
  refine wpAny_bind (slicePart_ ps ?_)
  show wpAny _ _ (if ((-1 : Int) == 0) = true then _ else _) _ _ s
  rw [if_neg (by decide)]
  refine wpAny_bind (slicePart_none (wpAny_bind (slicePart_none (wpAny_bind (wpAny_pure ?_)))))
  show wpAny _ _ (match Builtin.Slice.sliceAdjust none none (-1) (n : Int) with | (lo, hi) => pure (lo, (-1 : Int), Builtin.Slice.slicePlaces lo hi (-1))) _ _ s
  rw [adjust_back n]
  show wpAny _ _ (pure ((n : Int) - 1, (-1 : Int), Builtin.Slice.slicePlaces ((n : Int) - 1) (-1) (-1))) _ _ s
  rw [places_back]
  exact wpAny_pure h
theorem pick_back (xs : Array Value) : ((List.range xs.size).filterMap fun (m : Nat) => xs[(((xs.size : Int) - 1) + (m : Int) * (-1)).toNat]?).toArray = xs.toList.reverse.toArray := by
  refine congrArg List.toArray ?_
  have e : (List.range xs.size).filterMap (fun (m : Nat) => xs[(((xs.size : Int) - 1) + (m : Int) * (-1)).toNat]?) = ((List.range xs.size).map fun k => xs.size - 1 - k).filterMap (xs[·]?) := by
    rw [List.filterMap_map]
    refine congrArg (fun g => List.filterMap g _) (funext fun m => ?_)
    have : (((xs.size : Int) - 1) + (m : Int) * (-1)).toNat = xs.size - 1 - m := by omega
    show xs[(((xs.size : Int) - 1) + (m : Int) * (-1)).toNat]? = xs[xs.size - 1 - m]?
    rw [this]
  rw [e, PySem.W.krv_range, List.filterMap_reverse, PySem.W.krv_all]
theorem getItem_tuple_back {t sl : Addr} {items : Array Value} {vs : Value} {Q : Value → Shared → Prop} (ht : IsTup s.heap t items) (hs : s.heap.IsSliceOf sl .none .none vs) (ps : IsPart vs (some (-1)))
    (h : Q (.ref s.heap.objs.size) { s with heap := s.heap.push { cls := .type "tuple", data := .seq items.toList.reverse.toArray } })
    (hsz : items.size ≤ sizeLine) : wpAny (model prog w) A (getItem (.ref t) (.ref sl)) Q E s := by -- k01
  have htake : sizeOk (.seq items.toList.reverse.toArray) := by
    show items.toList.reverse.toArray.size ≤ sizeLine
    rw [List.size_toArray, List.length_reverse, Array.length_toList]
    exact hsz
  have cut : s.TypeIs (.ref sl) "slice" := by obtain ⟨o, o1, o2, _⟩ := id hs; exact ⟨o, o1, o2⟩
  have ty := ht.typeIs
  unfold getItem
  with_reducible refine wpAny_holding ?_
  refine wpAny_bind (wpAny_sequenceKey ty (by decide) (wpAny_bind (wpAny_callSpecial?_slot (name := Str.ofString "__getitem__") ty PyProof.Rows.slot_tuple_getitem (wpAny_call_entry PyProof.Rows.slot_tuple_getitem ty entry_tuple_getitem ?_ (args_tuple_getitem _ _)))))
  show wpAny _ _ (Builtin.Tuple.tupleItemsOf _ >>= _) _ _ _
  refine wpAny_bind (tupleItemsOf_ ht (wpAny_bind (wpAny_typeOf cut ?_)))
  rw [if_pos (show (_ == _) = true by decide)]
  refine wpAny_bind (sliceApplied_back hs ps ?_)
  have hno : ¬ ((((items.size : Int) - 1) == 0 && (-1 : Int) == 1 && items.size == items.size) = true) := by
    intro q
    rw [Bool.and_eq_true, Bool.and_eq_true] at q
    exact absurd q.1.2 (by decide)
  show wpAny _ _ (if ((((items.size : Int) - 1) == 0 && (-1 : Int) == 1 && items.size == items.size) = true) then _ else _) _ _ s
  rw [if_neg hno, pick_back]
  exact wpAny_bind (m := Builtin.Tuple.tupleExact _) (wpAny_newObj_type (wpAny_pure ⟨_, rfl, wpAny_pure h⟩) htake)
end
section
variable {X : Cx}
def tRevT (K : PySem.W.Frag) (te : TE) : TE := fun σ H Q => te σ H fun x H1 => ∃ a xs, x = .ref a ∧ SqT K H1 a xs ∧ ∀ p, H1 p = none → Q (.ref p) (upd H1 p (.tup xs.reverse))
theorem pe_revT {e : Expr} {te : TE} {k : Nat} {p1 p2 p3 pos : Pos} (he : PE X e te) : PE X (.Subscript e (.Slice none none (some (.UnaryOp .USub (.Constant (.int 1) k p1) p2)) p3) pos) (tRevT X.K te) := by
  have hst : PO X (some (.UnaryOp .USub (.Constant (.int 1) k p1) p2)) (tPart (tUn (rU fun i => .int (-i)) (tC (.int 1)))) := po_some (pe_un un_neg pe_int) -- k01
  constructor
  intro pins s σ H Q I h
  refine Subscript_ (thn (he.run pins s σ H _ I h) ?_)
  rintro v s1 ⟨_, H1, I1, r1, a, xs, rfl, hx, q⟩
  cases r1
  refine wpAny_Slice (thn (po_none.run pins s1 σ H1 (fun o H2 => o = none ∧ H2 = H1) I1 ⟨rfl, rfl⟩) ?_)
  rintro vl s2 ⟨_, _, I2, pl, rfl, rfl⟩
  refine thn (po_none.run pins s2 σ _ (fun o H3 => o = none ∧ H3 = _) I2 ⟨rfl, rfl⟩) ?_
  rintro vu s3 ⟨_, _, I3, pu, rfl, rfl⟩
  refine thn (hst.run pins s3 σ _ (fun o H4 => o = some (-1) ∧ H4 = _) I3 ⟨1, rfl, -1, rfl, rfl, rfl⟩) ?_
  rintro vs s4 ⟨_, H4, I4, ps, rfl, rfl⟩
  have I5 : Inv X pins σ H4 { s4 with heap := s4.heap.push { cls := .type "slice", data := .fields #[vl, vu, vs] } } := I4.kept (t' := s4.toks) fun _ _ e => Heap.get?_push_of_some _ e
  obtain ⟨its, r, ht, hz⟩ := I5.tuple hx
  have hlen := r.length
  cases pl
  cases pu
  show wpAny (model X.prog X.w) X.A (subscriptTail e (.Slice none none (some (.UnaryOp .USub (.Constant (.int 1) k p1) p2)) p3) (.ref a) (.ref s4.heap.objs.size)) (EP X pins σ Q) X.xe { s4 with heap := s4.heap.push { cls := .type "slice", data := .fields #[.none, .none, vs] } }
  refine tail_any (ops := [.ref a, .ref s4.heap.objs.size]) ht.typeIs (PyProof.Rows.slot_tuple_getitem.lookup) ?_ (by with_unfolding_all rfl)
  refine getItem_tuple_back ht (Heap.IsSliceOf.new _ .none .none vs) ps ?_ (by rw [List.size_toArray]; omega)
  refine ⟨.ref _, _, I5.laid (t' := s4.toks) (o := .tup xs.reverse) (fun b ob q => Heap.get?_push_of_some _ q) (Nat.le_refl _) ?_, rfl, q _ (I5.hok.fresh (Nat.le_refl _))⟩
  exact ⟨by rw [List.length_reverse]; omega, _, r.reverse, ⟨_, Heap.get?_push_size _ rfl, rfl, 0, rfl⟩⟩
end
end L2
namespace DL
open PySem PySem.Spec PyProof.Rows L2
section
variable {X : Cx} {R : Root} {σ : L2.St} {H D : Hp} {Γ : DEnv} {K : PySem.W.Frag}
def dRevT (a : DE) : DE := fun Γ Q => a Γ fun d Γ1 => match d with | .tuple es => Q (.tuple es.reverse) Γ1 | _ => False
theorem pde_revT {e : Expr} {k : Nat} {p1 p2 p3 pos : Pos} {a : DE} (ha : PDE X R e a) : PDE X R (.Subscript e (.Slice none none (some (.UnaryOp .USub (.Constant (.int 1) k p1) p2)) p3) pos) (dRevT a) := by
  refine ⟨pe_imp (pe_revT ha.pe) fun σ H Q ⟨Γ, D, r, q⟩ => ?_, fun Γ W W' m h => ha.mono Γ _ _ (fun d Γ1 q => by cases d <;> first | exact m _ _ q | exact q) h⟩
  refine goE r ha.mono q fun d Γ1 v H1 D1 h1 r1 s1 q1 => ?_
  cases q1 with
  | tup s al =>
    rename_i a' xs' ds'
    refine ⟨_, _, rfl, sqT_mono r1.sub s, fun l hl => ?_⟩
    have g := Grow.upd (o := .tup xs'.reverse) r1.sub hl
    exact h1 _ _ _ (r1.grow g) (s1.trans g.step) (.tup (SqT.of upd_same) (dpAll_mono g.d (dpAll_rev al)))
  | _ => exact h1.elim
def dPar2 (i j : Nat) (a : DA) : DS := fun E Γ => a Γ fun ds Γ1 => match ds with | [d, e] => dSet i (Ent.dat d) Γ1 fun Γ2 => dSet j (Ent.dat e) Γ2 E.nx | _ => False
theorem dPar2_mono {i j : Nat} {a : DA} (ma : MonoK a) : MonoS (dPar2 i j a) := fun E E' Γ l h => ma Γ _ _ (fun ds Γ1 q => by
  split at q
  · exact dSet_mono (fun Γ2 q2 => dSet_mono l.nx q2) q
  · exact q.elim) h
theorem pds_par2 {i j : Nat} {x y : Str} {a b : Expr} {da : DA} {px py pt pos : Pos} {kt k2 pt2} (hc : X.calm = true) (hN : X.N.Nodup) (ha : PDA X R [a, b] da) (hi : X.N[i]? = some x := by rfl) (hj : X.N[j]? = some y := by rfl) (hij : i ≠ j := by decide)
    (hx : X.env.scope.names.lookup x = some .local := by rfl) (hy : X.env.scope.names.lookup y = some .local := by rfl)
    (hw : swappedStores [.Tuple [.Name x px, .Name y py] kt pt] (.Tuple [a, b] k2 pt2) X.env = pure (some [x, y]) := by rfl)
    (hs : swapsWithSole [.Tuple [.Name x px, .Name y py] kt pt] (.Tuple [a, b] k2 pt2) pos.line X.env = pure false := by rfl) : -- k01
    PDS X R (.Assign [.Tuple [.Name x px, .Name y py] kt pt] (.Tuple [a, b] k2 pt2) pos) (dPar2 i j da) := by
  refine ⟨ps_imp (ps_par hc hN hi hj hij hx hy ha.pa hw hs) fun E σ H ⟨Γ, D, r, q⟩ => ?_, dPar2_mono ha.mono⟩
  refine goA r ha.mono q fun ds Γ1 vs H1 D1 h1 r1 s1 q1 => ?_
  split at h1
  · cases q1 with
    | cons q2 q3 =>
      cases q3 with
      | cons q4 q5 =>
        cases q5
        refine ⟨_, _, rfl, ?_⟩
        obtain ⟨Γ2, h2, r2⟩ := setD_go r1 q2 h1
        obtain ⟨Γ3, h3, r3⟩ := setD_go r2 q4 h2
        exact h3 _ H1 D1 r3 s1.d
  · exact h1.elim
def dPar3 (i j l : Nat) (a : DA) : DS := fun E Γ => a Γ fun ds Γ1 => match ds with | [d, e, f] => dSet i (Ent.dat d) Γ1 fun Γ2 => dSet j (Ent.dat e) Γ2 fun Γ3 => dSet l (Ent.dat f) Γ3 E.nx | _ => False
theorem dPar3_mono {i j l : Nat} {a : DA} (ma : MonoK a) : MonoS (dPar3 i j l a) := fun E E' Γ l h => ma Γ _ _ (fun ds Γ1 q => by
  split at q
  · exact dSet_mono (fun Γ2 q2 => dSet_mono (fun Γ3 q3 => dSet_mono l.nx q3) q2) q
  · exact q.elim) h
theorem pds_par3 {i j l : Nat} {x y z : Str} {a b c : Expr} {da : DA} {px py pz pt pos : Pos} {kt k2 pt2} (hc : X.calm = true) (hN : X.N.Nodup) (ha : PDA X R [a, b, c] da) (hi : X.N[i]? = some x := by rfl) (hj : X.N[j]? = some y := by rfl) (hl : X.N[l]? = some z := by rfl) (hij : i ≠ j := by decide) (hil : i ≠ l := by decide) (hjl : j ≠ l := by decide)
    (hx : X.env.scope.names.lookup x = some .local := by rfl) (hy : X.env.scope.names.lookup y = some .local := by rfl) (hz : X.env.scope.names.lookup z = some .local := by rfl)
    (hw : swappedStores [.Tuple [.Name x px, .Name y py, .Name z pz] kt pt] (.Tuple [a, b, c] k2 pt2) X.env = pure (some [x, y, z]) := by rfl)
    (hs : swapsWithSole [.Tuple [.Name x px, .Name y py, .Name z pz] kt pt] (.Tuple [a, b, c] k2 pt2) pos.line X.env = pure false := by rfl) : -- k01
    PDS X R (.Assign [.Tuple [.Name x px, .Name y py, .Name z pz] kt pt] (.Tuple [a, b, c] k2 pt2) pos) (dPar3 i j l da) := by
  refine ⟨ps_imp (ps_par3 hc hN hi hj hl hij hil hjl hx hy hz ha.pa hw hs) fun E σ H ⟨Γ, D, r, q⟩ => ?_, dPar3_mono ha.mono⟩
  refine goA r ha.mono q fun ds Γ1 vs H1 D1 h1 r1 s1 q1 => ?_
  split at h1
  · cases q1 with
    | cons q2 q3 =>
      cases q3 with
      | cons q4 q5 =>
        cases q5 with
        | cons q6 q7 =>
          cases q7
          refine ⟨_, _, _, rfl, ?_⟩
          obtain ⟨Γ2, h2, r2⟩ := setD_go r1 q2 h1
          obtain ⟨Γ3, h3, r3⟩ := setD_go r2 q4 h2
          obtain ⟨Γ4, h4, r4⟩ := setD_go r3 q6 h3
          exact h4 _ H1 D1 r4 s1.d
  · exact h1.elim
end
end DL
namespace L2
open PySem PySem.Spec PyProof.Rows
theorem gives_add_bi (b : Bool) (a : Int) (t : Tok) : Gives (Builtin.«int.__add__» ⟨[.bool b, .int a t], []⟩) (.int ((if b = true then (1 : Int) else 0) + a)) :=
  .of_wp fun M A E s Q h => by obtain ⟨hp, g, d, tk, os⟩ := s; wp_walk; exact ⟨_, rfl, h⟩ -- k01
theorem add_bool_int {prog : Program} {w : World} {A : Around} {E : Value → Shared → Prop} {s : Shared} {a : Int} {t : Tok} {b : Bool} {Q : Value → Shared → Prop} (h : Q (.int ((if b = true then (1 : Int) else 0) + a) s.toks) { s with toks := s.toks + 1 }) :
    wpAny (model prog w) A (binaryOp .Add (.bool b) (.int a t)) Q E s :=
  binaryOp_left_gives (op := .Add) (T := "bool") (U := "int") (by decide) (typeIs_bool' s b) (fun s' => typeIs_int s' a t) PySem.F.fills_bool_add PySem.F.fills_int_add PySem.F.sub_int_bool PySem.F.slot_bool_add PySem.F.slot_int_radd PySem.F.entry_int_add (PySem.F.args_int_add_2 _ _)
    (gives_add_bi b a t) trivial h
theorem op_add_bi {X : Cx} : OpR X (binaryOp .Add) (fun x y H Q => ∃ k i, x = .bl k ∧ y = .int i ∧ Q (.int (b2i k + i)) H) := by
  intro pins s σ H x y v u Q I rx ry h -- k01
  obtain ⟨k, i, rfl, rfl, q⟩ := h
  cases rx
  obtain ⟨t, rfl⟩ := ry
  exact add_bool_int ⟨.int (b2i k + i), H, I.tok _, ⟨_, rfl⟩, q⟩
end L2
namespace DL
open PySem PySem.Spec PyProof.Rows L2
section
variable {X : Cx} {R : Root} {K : PySem.W.Frag}
def bAddB : PyData → PyData → (PyData → Prop) → Prop := fun d e Q => match d, e with
  | .int i, .int j => Q (.int (i + j))
  | .bool b, .int j => Q (.int (b2i b + j))
  | _, _ => False
theorem bAddB_mono : MonoB bAddB := fun d e W W' m h => by
  unfold bAddB at h ⊢
  split at h
  · exact m _ h
  · exact m _ h
  · exact h
theorem bAddB_ok : OpD K (fun x y H Q => (rI0 (fun i j => .int (i + j))) x y H Q ∨ (∃ k i, x = .bl k ∧ y = .int i ∧ Q (.int (b2i k + i)) H)) bAddB := fun D H x y d e Q u hx hy h => by
  unfold bAddB at h
  split at h
  · cases hx; cases hy
    exact .inl ⟨_, _, rfl, rfl, int_out u h⟩
  · cases hx; cases hy
    exact .inr ⟨_, _, rfl, rfl, int_out u h⟩
  · exact h.elim
theorem pde_addB {a b : Expr} {pos : Pos} {da db : DE} (ha : PDE X R a da) (hb : PDE X R b db) : PDE X R (.BinOp a .Add b pos) (dOp bAddB da db) := pd_op (op_add.or op_add_bi) bAddB_ok bAddB_mono ha hb
end
end DL
namespace DL
open PySem PySem.Spec PyProof.Rows L2
section
variable {X : Cx} {R : Root} {K : PySem.W.Frag}
def dN (s : DS) (t : NDS) : NDS := fun W Γ => s { nx := t W, rt := fun _ _ => False } Γ
theorem dN_at {s : DS} {t : NDS} {W : List PyData → Prop} {Γ : DEnv} : dN s t W Γ = s { nx := t W, rt := fun _ _ => False } Γ := rfl
theorem pdn_consH {st : Stmt} {rest : List Stmt} {s : DS} {t : NDS} (h : PDS X R st s) (h2 : PDN X R rest t) : PDN X R (st :: rest) (dN s t) := pdn_cons h h2
end
end DL

set_option Elab.async false
set_option linter.all false
set_option maxRecDepth 100000
namespace T1
open PySem PySem.Spec PyProof.Rows L2 DL
def top (i : Nat) : Stmt := PySem.Challenge.pw_mumhouse_k01_kinds_by_form.main.body.getD i (.Pass ⟨0, 0, 0, 0⟩)
def q1 (C : PyData → Prop) (f : PyData → PyData) : PSpec := fun ds W => ∃ d, ds = [d] ∧ C d ∧ W (f d)
def q2 (C : PyData → PyData → Prop) (f : PyData → PyData → PyData) : PSpec := fun ds W => ∃ d e, ds = [d, e] ∧ C d e ∧ W (f d e)
def q3 (C : PyData → PyData → PyData → Prop) (f : PyData → PyData → PyData → PyData) : PSpec := fun ds W => ∃ d e g, ds = [d, e, g] ∧ C d e g ∧ W (f d e g)
theorem q1_mono {C f} : MonoP (q1 C f) := fun ds W W' m ⟨d, e, c, h⟩ => ⟨d, e, c, m _ h⟩
theorem q2_mono {C f} : MonoP (q2 C f) := fun ds W W' m ⟨d, e, e1, c, h⟩ => ⟨d, e, e1, c, m _ h⟩
theorem q3_mono {C f} : MonoP (q3 C f) := fun ds W W' m ⟨d, e, g, e1, c, h⟩ => ⟨d, e, g, e1, c, m _ h⟩
theorem q1_len {C f} : ∀ ds Q, q1 C f ds Q → ds.length = 1 := fun ds Q ⟨d, e, _⟩ => by rw [e]; rfl
theorem q2_len {C f} : ∀ ds Q, q2 C f ds Q → ds.length = 2 := fun ds Q ⟨d, e', e, _⟩ => by rw [e]; rfl
theorem q3_len {C f} : ∀ ds Q, q3 C f ds Q → ds.length = 3 := fun ds Q ⟨d, e', e2, e, _⟩ => by rw [e]; rfl
theorem q1_at {C f d W} : q1 C f [d] W ↔ C d ∧ W (f d) := ⟨fun ⟨_, e, c, h⟩ => by cases e; exact ⟨c, h⟩, fun ⟨c, h⟩ => ⟨d, rfl, c, h⟩⟩
theorem q2_at {C f d e W} : q2 C f [d, e] W ↔ C d e ∧ W (f d e) := ⟨fun ⟨_, _, e, c, h⟩ => by cases e; exact ⟨c, h⟩, fun ⟨c, h⟩ => ⟨d, e, rfl, c, h⟩⟩
theorem q3_at {C f d e g W} : q3 C f [d, e, g] W ↔ C d e g ∧ W (f d e g) := ⟨fun ⟨_, _, _, e, c, h⟩ => by cases e; exact ⟨c, h⟩, fun ⟨c, h⟩ => ⟨d, e, g, rfl, c, h⟩⟩
def isInt : PyData → Bool | .int _ => true | _ => false
theorem cast_succ_ne (n : Nat) : (((n + 1 : Nat) : Int) = 0) ↔ False := ⟨fun h => by omega, False.elim⟩
local macro_rules | `(tactic| walk_at "ds T1a") => `(tactic| simp only [dSeq, dIfS, dRet, dRetN, dAsg, dAsgO, dSet, dDrop, dAsgG, dgTup, dgCons, dgName, dgNil, dNext, dBreak, dCont, dVar, dC, dOp, dTest, dAnd, dOr, dNot, dAndV, dOrV, dNotV, dIf, dIfL, dNil, dCons, dTup, dLst, dFrz, dCall, dCallP, dCallF, dCallN,
  dSeqOf, dRange1, dRange2, dEnum, dZip, dForD, dLcD, dYes, dAppend, dPop, dExtend, dSetItem, dTruO, bInt, bAdd, dNeg, bEq, bNe, bIs, bIsNot, bLt, bLe, bGt, bGe, bOrd, dChain, bIn, bIx, dIxO, dLenO, dNo, dYesO, dSlice, SlD, dIsi, dIsi2, cLen, cAll, cStr, cInt, cTuple, dListOf, dCat, dJoin, dFmt, dJs, dJoined, dGetT, dInT, dRev1, bRep, wipeD, backD, q1_at, q2_at, q3_at, isInt, cast_succ_ne, at0, at1, at2, at3, ex_some, cut1, eqvS, eqvI, shS, shI, flatD, List.all_cons, List.all_nil, Bool.and_true, decide_eq_true_eq, isTy, isNone,
  startD, startF, List.map_cons, List.map_nil, List.length_cons, List.length_nil, List.nil_append, List.cons_append, List.replicate, List.getElem?_cons_zero, List.getElem?_cons_succ, List.getElem?_nil, List.set_cons_zero, List.set_cons_succ, List.set_nil, Nat.zero_add, Nat.reduceAdd, Nat.reduceSub, Nat.reduceLT, Nat.reduceLeDiff, if_true, if_false, ite_true, ite_false, reduceIte, Bool.false_eq_true, Bool.not_true, Bool.not_false, Bool.true_eq_false, true_and, and_true, Nat.sub_self, Nat.sub_zero, Nat.reduceMul, List.replicate_zero, List.append_nil])
section
variable {P : Program} {w : World} {K : PySem.W.Frag} {mg : Str → Option Value} {base : Heap} {k : Nat} {f : Addr} {fd : FuncData}

theorem S_is_integer : FnScope ["thing"] ["thing"] (defScope (top 1)) := ⟨rfl, rfl, rfl, by decide +kernel, rfl, by decide +kernel, by decide +kernel⟩
theorem ok_is_integer (B : B0 mg) (F : Fun K "is_integer" "is_integer" (top 1) f fd) : FnOk P w K mg base CX0 (k + 1) f fd ["thing"] (spP K (q1 (fun _ => True) fun d => .bool (isInt d))) := by
  refine okP F S_is_integer q1_len q1_mono fun cdv A outer s H E R hr => ⟨_, (pdss_one (pds_ret (pde_and (pde_isi .int rfl (pd_var 0) B.isinstance B.int) (pde_one (pde_not (pde_isi .bool rfl (pd_var 0) B.isinstance B.bool)))))), ?_⟩
  rintro ds W ⟨d, rfl, _, h⟩
  cases d <;> (walk_at "ds T1a"; exact h)

def okC (c : Nat) : Bool := decide (97 ≤ c) && decide (c ≤ 122)
def okName (x : Str) : Bool := decide (1 ≤ x.length) && decide (x.length ≤ 8) && x.cps.toList.all okC
def isName : PyData → Bool | .str x => okName x | _ => false
theorem S_is_name : FnScope ["thing", "letter"] ["thing"] (defScope (top 3)) := ⟨rfl, rfl, rfl, by decide +kernel, rfl, by decide +kernel, by decide +kernel⟩
theorem chr_lt (a b : Nat) : (([a] : List Nat) < [b]) ↔ a < b := by
  rw [List.cons_lt_cons_iff]
  simp
theorem ok_is_name (B : B0 mg) (F : Fun K "is_name" "is_name" (top 3) f fd) : FnOk P w K mg base CX0 (k + 1) f fd ["thing"] (spP K (q1 (fun d => ∀ x, d = .str x → x.length ≤ 1000000) fun d => .bool (isName d))) := by
  refine okP F S_is_name q1_len q1_mono fun cdv A outer s H E R hr => ⟨_, (pdss_cons (pds_if (pdw_or (pdt_not (pdt_val (pde_isi .str rfl (pd_var 0) B.isinstance B.str))) (pdw_or1 (pdt_not (pdt_lele pd_int (pde_len (pd_var 0) B.len) pd_int)))).t (pdss_one (pds_ret pd_bl)) pdss_nil) (pdss_one (pds_ret (pde_all rfl (pde_frz (pdl_lcD (own := [("letter", 1)]) rfl S_is_name.nd (pdi_list (pd_var 0)) (blkOk (N := ["thing", "letter"]) (sc := defScope (top 3)) rfl (by decide +kernel) (by decide +kernel) (by decide +kernel) (by decide +kernel)) (fun _ _ _ _ _ => (pdg_name 1 S_is_name.nd)) (fun _ _ _ _ _ => pdts_nil) (fun _ _ _ _ _ => (pde_lele pd_str (pd_var 1) pd_str)))) B.all)))), ?_⟩
  rintro ds W ⟨d, rfl, c, h⟩
  cases d <;> try (walk_at "ds T1a"; exact h)
  rename_i x
  have c := c x rfl
  walk_at "ds T1a"
  refine ⟨c, ?_⟩
  by_cases h1 : (1 : Int) ≤ (x.length : Int)
  · by_cases h8 : (x.length : Int) ≤ 8
    · simp only [decide_eq_true h1, decide_eq_true h8]; walk_at "ds T1a"
      refine ⟨okW_of, lcD_map (fun d => match d with | .str y => .bool (y.cps.toList.all okC) | _ => .none) _ _ ?_ ?_ ?_⟩
      · have e : (DL.signs x).length = x.length := by unfold DL.signs Str.length; simp
        rw [e]; show 0 + _ ≤ _; omega
      · intro d hd Y Z hY
        obtain ⟨n, hn, rfl⟩ := List.mem_map.mp hd
        walk_at "ds T1a"
        have e1 : (!decide (([n] : List Nat) < (Str.ofString "a").cps.toList)) = decide (97 ≤ n) := by
          rw [show (Str.ofString "a").cps.toList = [97] by decide, decide_eq_decide.mpr (chr_lt n 97)]
          by_cases q : 97 ≤ n
          · rw [decide_eq_true q, decide_eq_false (by omega)]; rfl
          · rw [decide_eq_false q, decide_eq_true (by omega)]; rfl
        have e2 : (!decide ((Str.ofString "z").cps.toList < ([n] : List Nat))) = decide (n ≤ 122) := by
          rw [show (Str.ofString "z").cps.toList = [122] by decide, decide_eq_decide.mpr (chr_lt 122 n)]
          by_cases q : n ≤ 122
          · rw [decide_eq_true q, decide_eq_false (by omega)]; rfl
          · rw [decide_eq_false q, decide_eq_true (by omega)]; rfl
        have hY : ∀ Γ', backD Γ' [some (Ent.dat (PyData.str x)), none] [1] = [some (Ent.dat (PyData.str x)), none] → Y (.bool (okC n)) Γ' := fun Γ' e => by
          have q := hY Γ' e
          have z : (⟨#[n]⟩ : Str).cps.toList.all okC = okC n := by simp
          simp only [z] at q
          exact q
        unfold okC at hY
        rw [e1, e2]
        by_cases q : 97 ≤ n
        · rw [decide_eq_true q] at hY ⊢
          exact hY _ rfl
        · rw [decide_eq_false q] at hY ⊢
          exact hY _ rfl
      · refine ⟨x.cps.toList.map okC, ?_, ?_⟩
        · rw [List.nil_append]
          unfold DL.signs
          rw [List.map_map, List.map_map] -- k01
          refine congrArg (fun z => [PyData.list z]) (List.map_congr_left fun n _ => ?_)
          show PyData.bool (List.all (⟨#[n]⟩ : Str).cps.toList okC) = PyData.bool (okC n)
          simp
        · have e : isName (.str x) = (x.cps.toList.map okC).all id := by
            show okName x = _
            unfold okName
            rw [decide_eq_true (by omega), decide_eq_true (by omega), List.all_map]
            rfl
          rw [← e]
          exact h
    · simp only [decide_eq_true h1, decide_eq_false h8]; try walk_at "ds T1a"
      have e : isName (.str x) = false := by
        show okName x = _
        unfold okName
        rw [decide_eq_false (show ¬ x.length ≤ 8 by omega), Bool.and_false, Bool.false_and]
      have h : W (.bool (isName (.str x))) := h
      rw [e] at h
      exact h
  · simp only [decide_eq_false h1]; try walk_at "ds T1a"
    have e : isName (.str x) = false := by
      show okName x = _
      unfold okName
      rw [decide_eq_false (show ¬ 1 ≤ x.length by omega), Bool.false_and, Bool.false_and]
    have h : W (.bool (isName (.str x))) := h
    rw [e] at h
    exact h

def numTab (w : Str) : Option (List Str) :=
  if w = "of" then some ["name", "name"] else if w = "my" then some ["name"] else if w = "+" then some ["number", "number"] else if w = "-" then some ["number", "number"] else if w = "*" then some ["number", "number"]
  else if w = "least" then some ["number", "number"] else if w = "most" then some ["number", "number"] else if w = "if" then some ["condition", "number", "number"] else if w = "count" then some ["condition"] else if w = "sum" then some ["number", "condition"] else none
def condTab (w : Str) : Option (List Str) :=
  if w = "=" then some ["number", "number"] else if w = "<" then some ["number", "number"] else if w = "and" then some ["condition", "condition"] else if w = "or" then some ["condition", "condition"] else if w = "not" then some ["condition"] else none
def tupS (ks : List Str) : PyData := .tuple (ks.map .str)
def kOut : Option (List Str) → PyData | none => .none | some ks => tupS ks
def tabN (w : Str) : Option PyData := (numTab w).map tupS
def tabC (w : Str) : Option PyData := (condTab w).map tupS
def tabOf (k w : Str) : Option (List Str) := if k = "number" then numTab w else condTab w
theorem getD_tab (o : Option (List Str)) : (o.map tupS).getD .none = kOut o := by cases o <;> rfl
def fKinds : PyData → PyData → PyData | .str w, .str k => kOut (tabOf k w) | _, _ => .none
theorem S_kinds_behind : FnScope ["word", "kind"] ["word", "kind"] (defScope (top 15)) := ⟨rfl, rfl, rfl, by decide +kernel, rfl, by decide +kernel, by decide +kernel⟩
theorem ok_kinds_behind (F : Fun K "kinds_behind" "kinds_behind" (top 15) f fd) (g_NUMBER : HasStr mg "NUMBER" "number") {d_NUMBERS d_CONDITIONS : Addr} (g_NUMBERS : mg "NUMBERS" = some (.ref d_NUMBERS)) (g_CONDITIONS : mg "CONDITIONS" = some (.ref d_CONDITIONS))
    (k_NUMBERS : KTab K w d_NUMBERS tabN) (k_CONDITIONS : KTab K w d_CONDITIONS tabC) : FnOk P w K mg base CX0 (k + 1) f fd ["word", "kind"] (spP K (q2 (fun d e => (∃ w, d = .str w) ∧ ∃ k, e = .str k ∧ PyData.strOk k = true) fKinds)) := by
  refine okP F S_kinds_behind q2_len q2_mono fun cdv A outer s H E R hr => ⟨_, (pdss_cons (pds_if (pdt_eq hr.units (pd_var 1) (pd_globS g_NUMBER)) (pdss_one (pds_ret (pde_getT k_NUMBERS g_NUMBERS (pd_var 0) ⟨rfl, rfl, rfl, rfl⟩))) pdss_nil) (pdss_one (pds_ret (pde_getT k_CONDITIONS g_CONDITIONS (pd_var 0) ⟨rfl, rfl, rfl, rfl⟩)))), ?_⟩
  rintro ds W ⟨d, e, rfl, ⟨⟨w, rfl⟩, ⟨k, rfl, hk⟩⟩, h⟩
  walk_at "ds T1a"
  refine ⟨hk, by decide +kernel, ?_⟩
  show if k = "number" then _ else _
  have h : W (kOut (tabOf k w)) := h
  unfold tabOf at h
  unfold tabN tabC
  rw [getD_tab, getD_tab]
  by_cases q : k = "number"
  · rw [if_pos q] at h ⊢
    exact h
  · rw [if_neg q] at h ⊢
    exact h
def kindOf : PyData → Str | .tuple (.str w :: _) => if (condTab w).isSome then "condition" else "number" | _ => "number"
def Wordy (d : PyData) : Prop := (∃ i, d = .int i) ∨ ∃ w r, d = .tuple (.str w :: r)
def counts : PyData → Bool | .tuple (.str w :: _) => decide (w = "count") || decide (w = "sum") | _ => false
theorem S__counts : FnScope ["part"] ["part"] (defScope (top 20)) := ⟨rfl, rfl, rfl, by decide +kernel, rfl, by decide +kernel, by decide +kernel⟩
theorem ok__counts (B : B0 mg) (F : Fun K "_counts" "_counts" (top 20) f fd) : FnOk P w K mg base CX0 (k + 1) f fd ["part"] (spP K (q1 Wordy fun d => .bool (counts d))) := by
  refine okP F S__counts q1_len q1_mono fun cdv A outer s H E R hr => ⟨_, (pdss_one (pds_ret (pde_and (pde_isi .tuple rfl (pd_var 0) B.isinstance B.tuple) (pde_one (pde_in (pde_ix (pd_var 0) pd_int) (pde_tup (pda_cons pd_str (pda_cons pd_str pda_nil)))))))), ?_⟩
  rintro ds W ⟨d, rfl, ⟨i, rfl⟩ | ⟨w, r, rfl⟩, h⟩
  · walk_at "ds T1a"
    exact h
  · walk_at "ds T1a"
    have e : inD (.str w) [.str "count", .str "sum"] = counts (.tuple (.str w :: r)) := by
      unfold inD counts
      simp only [List.any_cons, List.any_nil, eqvS, Bool.or_false]
      rw [decide_eq_decide.mpr (eq_comm (a := (Str.ofString "count")) (b := w)), decide_eq_decide.mpr (eq_comm (a := (Str.ofString "sum")) (b := w))]
    rw [show inD (.str w) _ = _ from e]
    exact h
theorem S__fits : FnScope ["part", "house", "counted", "fields", "field"] ["part", "house", "counted"] (defScope (top 19)) := ⟨rfl, rfl, rfl, by decide +kernel, rfl, by decide +kernel, by decide +kernel⟩
theorem ok__fits (B : B0 mg) (F : Fun K "_fits" "_fits" (top 19) f fd) (h_is_integer : Has P w K mg base "is_integer" k ["thing"] (spP K (q1 (fun _ => True) fun d => .bool (isInt d)))) : FnOk P w K mg base CX0 (k + 1) f fd ["part", "house", "counted"] (spP K (q3 (fun _ e _ => e = .none) fun _ _ _ => .bool true)) := by
  refine okP F S__fits q3_len q3_mono fun cdv A outer s H E R hr => ⟨_, (pdss_cons (pds_if (pdw_or (pdt_is (pd_var 1) pd_non) (pdw_or1 (pdt_val (pde_callH q1_mono h_is_integer hr (pda_cons (pd_var 0) pda_nil))))).t (pdss_one (pds_ret pd_bl)) pdss_nil) (pdss_cons (pds_setLcD (i := 3) rfl S__fits.nd rfl (own := [("field", 4)]) (pdi_list (pde_ix (pd_var 1) pd_int)) (blkOk (N := ["part", "house", "counted", "fields", "field"]) (sc := defScope (top 19)) rfl (by decide +kernel) (by decide +kernel) (by decide +kernel) (by decide +kernel)) (fun _ _ _ _ _ => (pdg_name 4 S__fits.nd)) (fun _ _ _ _ _ => pdts_nil) (fun _ _ _ _ _ => (pde_ix (pd_var 4) pd_int))) (pdss_cons (pds_if (pdt_eq hr.units (pde_ix (pd_var 0) pd_int) pd_str) (pdss_one (pds_ret (pde_and (pde_in (pde_ix (pd_var 0) pd_int) (pde_ix (pd_var 1) pd_int)) (pde_one (pde_in (pde_ix (pd_var 0) pd_int) (pd_var 3)))))) pdss_nil) (pdss_cons (pds_if (pdt_eq hr.units (pde_ix (pd_var 0) pd_int) pd_str) (pdss_one (pds_ret (pde_and (pd_var 2) (pde_one (pde_in (pde_ix (pd_var 0) pd_int) (pd_var 3)))))) pdss_nil) (pdss_one (pds_ret pd_bl)))))), ?_⟩
  rintro ds W ⟨d, e, g, rfl, rfl, h⟩
  walk_at "ds T1a"
  exact h

def goodK : PyData × Str → Bool | (d, s) => !decide (s = "name") || isName d
def kindsIn : PyData → Str → Option (List Str)
  | .int _, k => if k = "number" then some [] else none
  | .tuple (.str w :: r), k => (tabOf k w).bind fun ks => if r.length = ks.length ∧ (r.zip ks).all goodK = true then some ks else none
  | _, _ => none
theorem S__kinds_in : FnScope ["part", "kind", "kinds", "item", "due"] ["part", "kind"] (defScope (top 18)) := ⟨rfl, rfl, rfl, by decide +kernel, rfl, by decide +kernel, by decide +kernel⟩
def kiC (d e : PyData) : Prop := (∃ k, e = .str k ∧ PyData.strOk k = true) ∧ ∀ r, d = .tuple r → ∀ z ∈ r, ∀ x, z = .str x → x.length ≤ 1000000
def kiF (d e : PyData) : PyData := match e with | .str k => kOut (kindsIn d k) | _ => .none
theorem zips_zip : ∀ (r : List PyData) (ks : List Str), zips r (ks.map .str) = (r.zip ks).map fun q => .tuple [q.1, .str q.2]
  | [], _ => rfl
  | _ :: _, [] => rfl
  | x :: r, s :: ks => by
    have := zips_zip r ks
    unfold zips at this ⊢
    rw [List.map_cons, List.zipWith_cons_cons, this]
    rfl
theorem zips_mem {r : List PyData} {ks : List Str} {d : PyData} (h : d ∈ zips r (ks.map .str)) : ∃ x s, x ∈ r ∧ s ∈ ks ∧ d = .tuple [x, .str s] := by
  rw [zips_zip] at h
  obtain ⟨⟨x, s⟩, h1, rfl⟩ := List.mem_map.mp h
  exact ⟨x, s, (List.of_mem_zip h1).1, (List.of_mem_zip h1).2, rfl⟩
def pNam : PyData → Bool | .tuple [_, .str s] => decide (s = "name") | _ => false
def fNam : PyData → PyData | .tuple [x, _] => .bool (isName x) | _ => .none
theorem all_nam (r : List PyData) (ks : List Str) : ((((r.zip ks).filter fun q => decide (q.2 = ("name" : Str))).map fun q => isName q.1).all id) = (r.zip ks).all goodK := by
  rw [List.all_map, List.all_filter]
  refine congrArg (List.all _) (funext fun q => ?_)
  obtain ⟨x, s⟩ := q
  rfl
theorem num_tab {w : Str} {ks : List Str} (h : numTab w = some ks) : ks.length ≤ 3 ∧ ∀ s ∈ ks, s = "name" ∨ s = "number" ∨ s = "condition" := by
  unfold numTab at h
  repeat' split at h
  all_goals first | (cases h; exact ⟨by decide, by decide +kernel⟩) | cases h
theorem cond_tab {w : Str} {ks : List Str} (h : condTab w = some ks) : ks.length ≤ 3 ∧ ∀ s ∈ ks, s = "name" ∨ s = "number" ∨ s = "condition" := by
  unfold condTab at h
  repeat' split at h
  all_goals first | (cases h; exact ⟨by decide, by decide +kernel⟩) | cases h
theorem tab_all {k w : Str} {ks : List Str} (h : tabOf k w = some ks) : ks.length ≤ 3 ∧ ∀ s ∈ ks, s = "name" ∨ s = "number" ∨ s = "condition" := by
  unfold tabOf at h
  split at h
  · exact num_tab h
  · exact cond_tab h
theorem tab_few {k w : Str} {ks : List Str} (h : tabOf k w = some ks) : ks.length ≤ 3 := (tab_all h).1
theorem tab_ok {k w : Str} {ks : List Str} (h : tabOf k w = some ks) (s : Str) (hs : s ∈ ks) : PyData.strOk s = true := by
  rcases (tab_all h).2 s hs with e | e | e <;> (rw [e]; decide +kernel)
theorem ok__kinds_in (B : B0 mg) (F : Fun K "_kinds_in" "_kinds_in" (top 18) f fd) (g_NAME : HasStr mg "NAME" "name") (g_NUMBER : HasStr mg "NUMBER" "number") (h_is_integer : Has P w K mg base "is_integer" k ["thing"] (spP K (q1 (fun _ => True) fun d => .bool (isInt d))))
    (h_is_name : Has P w K mg base "is_name" k ["thing"] (spP K (q1 (fun d => ∀ x, d = .str x → x.length ≤ 1000000) fun d => .bool (isName d))))
    (h_kinds_behind : Has P w K mg base "kinds_behind" k ["word", "kind"] (spP K (q2 (fun d e => (∃ w, d = .str w) ∧ ∃ k, e = .str k ∧ PyData.strOk k = true) fKinds))) : FnOk P w K mg base CX0 (k + 1) f fd ["part", "kind"] (spP K (q2 kiC kiF)) := by
  refine okP F S__kinds_in q2_len q2_mono fun cdv A outer s H E R hr => ⟨_, (pdss_cons (pds_if (pdt_val (pde_callH q1_mono h_is_integer hr (pda_cons (pd_var 0) pda_nil))) (pdss_one (pds_ret (pde_if (pdt_eq hr.units (pd_var 1) (pd_globS g_NUMBER)) (pde_tup pda_nil) pd_non))) pdss_nil) (pdss_cons (pds_if (pdw_or (pdt_not (pdt_val (pde_isi .tuple rfl (pd_var 0) B.isinstance B.tuple))) (pdw_or (pdt_eq hr.units (pde_len (pd_var 0) B.len) pd_int) (pdw_or1 (pdt_not (pdt_val (pde_isi .str rfl (pde_ix (pd_var 0) pd_int) B.isinstance B.str)))))).t (pdss_one (pds_ret pd_non)) pdss_nil) (pdss_cons (pds_set (i := 2) S__kinds_in.nd (pde_callH q2_mono h_kinds_behind hr (pda_cons (pde_ix (pd_var 0) pd_int) (pda_cons (pd_var 1) pda_nil)))) (pdss_cons (pds_if (pdw_or (pdt_is (pd_var 2) pd_non) (pdw_or1 (pdt_ne hr.units (pde_len (pd_var 0) B.len) (pde_add (pde_len (pd_var 2) B.len) pd_int)))).t (pdss_one (pds_ret pd_non)) pdss_nil) (pdss_cons (pds_if (pdt_not (pdt_val (pde_all rfl (pde_frz (pdl_lcD (own := [("item", 3), ("due", 4)]) rfl S__kinds_in.nd (pdi_zip rfl B.zip (pda_cons (pde_slice (pd_var 0) (pdo_some pd_int) pdo_none) (pda_cons (pd_var 2) pda_nil))) (blkOk (N := ["part", "kind", "kinds", "item", "due"]) (sc := defScope (top 18)) rfl (by decide +kernel) (by decide +kernel) (by decide +kernel) (by decide +kernel)) (fun _ _ _ _ _ => (pdg_tup (n := 2) rfl (pdgs_cons (pdg_name 3 S__kinds_in.nd) (pdgs_cons (pdg_name 4 S__kinds_in.nd) pdgs_nil)))) (fun _ _ _ _ _ => (pdts_one (pdt_eq hr.units (pd_var 4) (pd_globS g_NAME)))) (fun _ _ _ _ _ => (pde_callH q1_mono h_is_name hr (pda_cons (pd_var 3) pda_nil))))) B.all))) (pdss_one (pds_ret pd_non)) pdss_nil) (pdss_one (pds_ret (pd_var 2)))))))), ?_⟩
  rintro ds W ⟨d, e, rfl, ⟨⟨k, rfl, hk⟩, hr⟩, h⟩
  have none_of : ∀ d, kindsIn d k = none → W (kiF d (.str k)) → W .none := fun d e h => by
    have h : W (kOut (kindsIn d k)) := h
    rw [e] at h
    exact h
  cases d with
  | int i =>
    walk_at "ds T1a"
    refine ⟨hk, by decide +kernel, ?_⟩
    have h : W (kOut (if k = "number" then some [] else none)) := h
    by_cases q : k = "number"
    · rw [if_pos q] at h ⊢
      exact h
    · rw [if_neg q] at h ⊢
      exact h
  | tuple r =>
    cases r with
    | nil =>
      walk_at "ds T1a"
      exact none_of _ rfl h
    | cons z r =>
      cases z with
      | str w =>
        have hw : ∀ z ∈ r, ∀ x, z = .str x → x.length ≤ 1000000 := fun z hz => hr _ rfl z (List.mem_cons_of_mem _ hz)
        have hF : fKinds (.str w) (.str k) = kOut (tabOf k w) := rfl
        have hG : W (kOut ((tabOf k w).bind fun ks => if r.length = ks.length ∧ (r.zip ks).all goodK = true then some ks else none)) := h
        cases hT : tabOf k w with
        | none =>
          rw [hT] at hF hG
          walk_at "ds T1a"
          simp only [hF, kOut]
          try walk_at "ds T1a"
          exact ⟨⟨⟨_, rfl⟩, ⟨_, rfl, hk⟩⟩, hG⟩
        | some ks =>
          rw [hT] at hF hG
          walk_at "ds T1a"
          simp only [hF, kOut, tupS]
          walk_at "ds T1a"
          refine ⟨⟨⟨_, rfl⟩, ⟨_, rfl, hk⟩⟩, ?_⟩
          have hG : W (kOut (if r.length = ks.length ∧ (r.zip ks).all goodK = true then some ks else none)) := hG
          by_cases hl : r.length = ks.length
          · rw [if_neg (by rw [List.length_map, hl]; simp)]
            refine ⟨okW_of, lcD_fm pNam fNam _ _ ?_ ?_ ?_⟩
            · rw [zips_len, List.length_map]
              have := tab_few hT
              show 0 + _ ≤ _
              omega
            · intro d hd Y Z hY hZ
              obtain ⟨x, s, hx, hs, rfl⟩ := zips_mem hd
              walk_at "ds T1a"
              refine ⟨tab_ok hT s hs, by decide +kernel, ?_⟩
              by_cases q : s = "name"
              · rw [if_pos q]
                exact ⟨fun y hy => hw x hx y hy, hY (decide_eq_true q) _ rfl⟩
              · rw [if_neg q]
                exact hZ (decide_eq_false q) _ rfl
            · refine ⟨((r.zip ks).filter fun q => decide (q.2 = ("name" : Str))).map fun q => isName q.1, ?_, ?_⟩
              · rw [List.nil_append, zips_zip, List.filter_map, List.map_map, List.map_map]
                rfl
              · have e := all_nam r ks
                by_cases q : (r.zip ks).all goodK = true
                · rw [if_pos ⟨hl, q⟩] at hG
                  rw [if_neg (by rw [e, q]; decide)]
                  exact hG
                · rw [if_neg fun z => q z.2] at hG
                  rw [if_pos (by rw [e, Bool.eq_false_iff.mpr q]; rfl)]
                  exact hG
          · rw [if_pos (by rw [List.length_map, decide_eq_false (by omega)]; rfl)]
            rw [if_neg fun z => hl z.1] at hG
            exact hG
      | _ =>
        walk_at "ds T1a"
        exact none_of _ rfl h
  | _ => 
    walk_at "ds T1a"
    exact none_of _ rfl h
end
end T1

set_option Elab.async false
set_option linter.all false
set_option maxRecDepth 100000
namespace T1
open PySem PySem.Spec PyProof.Rows L2 DL
def dSetC : Option (Option Ent) → Prop → Prop
  | some (some (Ent.arg _)), _ => False
  | some _, Q => Q
  | none, _ => False
theorem dSet_eq {i : Nat} {e : Ent} {Γ : DEnv} {Q : DEnv → Prop} : dSet i e Γ Q = dSetC Γ[i]? (Q (Γ.set i (some e))) := by
  unfold dSet dSetC
  rcases Γ[i]? with _ | _ | c <;> first | rfl | (cases c <;> rfl)
def odat (y : Option PyData) : Option Ent := y.map Ent.dat
theorem sc_n {Q} : dSetC (some none) Q = Q := rfl
theorem sc_d {d Q} : dSetC (some (some (Ent.dat d))) Q = Q := rfl
theorem sc_o {d Q} : dSetC (some (some (Ent.own d))) Q = Q := rfl
theorem sc_y {y Q} : dSetC (some (odat y)) Q = Q := by cases y <;> rfl
theorem popget {α : Type} (xs : List α) (a : α) : (xs ++ [a])[(xs ++ [a]).length - 1]? = some a := by
  rw [List.length_append, List.length_singleton, Nat.add_sub_cancel, List.getElem?_append_right (Nat.le_refl _), Nat.sub_self]
  rfl
theorem emp_app {α : Type} (xs : List α) (a : α) : (xs ++ [a]).isEmpty = false := by cases xs <;> rfl
theorem down0 : down 0 = [] := rfl
theorem down1 : down 1 = [.int 0] := rfl
theorem down2 : down 2 = [.int 1, .int 0] := rfl
theorem down3 : down 3 = [.int 2, .int 1, .int 0] := rfl
theorem popex {α : Type} {xs : List α} {a : α} {P : α → Prop} : (∃ z, (xs ++ [a])[(xs ++ [a]).length - 1]? = some z ∧ P z) ↔ P a := by rw [popget]; exact ex_some
theorem atx0 {α : Type} {a : α} {r : List α} {P : α → Prop} : (∃ z, atI (a :: r) 0 = some z ∧ P z) ↔ P a := by rw [at0]; exact ex_some
theorem atx1 {α : Type} {a b : α} {r : List α} {P : α → Prop} : (∃ z, atI (a :: b :: r) 1 = some z ∧ P z) ↔ P b := by rw [at1]; exact ex_some
theorem atx2 {α : Type} {a b c : α} {r : List α} {P : α → Prop} : (∃ z, atI (a :: b :: c :: r) 2 = some z ∧ P z) ↔ P c := by rw [at2]; exact ex_some
theorem atx3 {α : Type} {a b c d : α} {r : List α} {P : α → Prop} : (∃ z, atI (a :: b :: c :: d :: r) 3 = some z ∧ P z) ↔ P d := by rw [at3]; exact ex_some
local macro_rules | `(tactic| walk_at "ds T1b") => `(tactic| simp only [↓dSeq, ↓dIfS, ↓dRet, ↓dRetN, ↓dAsg, ↓dAsgO, ↓dSet_eq, ↓sc_n, ↓sc_d, ↓sc_o, ↓sc_y, ↓dDrop, ↓dAsgG, ↓dgTup, ↓dgCons, ↓dgName, ↓dgNil, ↓dNext, ↓dBreak, ↓dCont, ↓dVar, ↓dC, ↓dOp, ↓dTest, ↓dAnd, ↓dOr, ↓dNot, ↓dAndV, ↓dOrV, ↓dNotV, ↓dIf, ↓dIfL, ↓dNil, ↓dCons, ↓dTup, ↓dLst, ↓dFrz, ↓dCall, ↓dCallP, ↓dCallF, ↓dCallN, ↓dSeqOf, ↓dRange1, ↓dRange2, ↓dEnum, ↓dZip, ↓dForD, ↓forD, ↓dLcD, ↓dYes, ↓dAppend, ↓dPop, ↓dExtend, ↓dSetItem, ↓dTruO, ↓bInt, ↓bAdd, ↓dNeg, ↓bEq, ↓bNe, ↓bIs, ↓bIsNot, ↓bLt, ↓bLe, ↓bGt, ↓bGe, ↓bOrd, ↓dChain, ↓bIn, ↓bIx, ↓dIxO, ↓dLenO, ↓dNo, ↓dYesO, ↓dSlice, ↓SlD, ↓dIsi, ↓dIsi2, ↓cLen, ↓cAll, ↓cStr, ↓cInt, ↓cTuple, ↓dListOf, ↓dCat, ↓dJoin, ↓dFmt, ↓dJs, ↓dJoined, ↓dGetT, ↓dInT, ↓dRev1, ↓bRep, ↓q1_at, ↓q2_at, ↓q3_at, ↓popex, ↓atx0, ↓atx1, ↓atx2, ↓atx3, ↓reduceIte,
  wipeD, backD, isInt, cast_succ_ne, at0, at1, at2, at3, ex_some, cut1, eqvS, eqvI, shS, shI, flatD, popget, emp_app, down0, down1, down2, down3, List.dropLast_concat, List.all_cons, List.all_nil, Bool.and_true, decide_eq_true_eq, isTy, isNone, startD, startF, List.map_cons, List.map_nil, List.length_cons, List.length_nil, List.nil_append, List.cons_append, List.replicate, List.getElem?_cons_zero, List.getElem?_cons_succ, List.getElem?_nil, List.set_cons_zero, List.set_cons_succ, List.set_nil, Nat.zero_add, Nat.reduceAdd, Nat.reduceSub, Nat.reduceLT, Nat.reduceLeDiff, Int.reduceAdd, Int.reduceSub, Int.toNat_natCast, if_true, if_false, ite_true, ite_false, Bool.false_eq_true, Bool.not_true, Bool.not_false, Bool.true_eq_false, true_and, and_true, Nat.sub_self, Nat.sub_zero, Nat.reduceMul, List.replicate_zero, List.append_nil])

inductive Tm where
  | num (i : Int) | nam (w : Str) (ns : List Str) | one (w : Str) (a : Tm) | two (w : Str) (a b : Tm) | tri (w : Str) (a b c : Tm)
def enc : Tm → PyData
  | .num i => .int i
  | .nam w ns => .tuple (.str w :: ns.map .str)
  | .one w a => .tuple [.str w, enc a]
  | .two w a b => .tuple [.str w, enc a, enc b]
  | .tri w a b c => .tuple [.str w, enc a, enc b, enc c]
def siz : Tm → Nat
  | .num _ => 1
  | .nam _ _ => 1
  | .one _ a => siz a + 1
  | .two _ a b => siz a + siz b + 1
  | .tri _ a b c => siz a + siz b + siz c + 1
def pre : Tm → List Tm
  | .num i => [.num i]
  | .nam w ns => [.nam w ns]
  | .one w a => .one w a :: pre a
  | .two w a b => .two w a b :: (pre a ++ pre b)
  | .tri w a b c => .tri w a b c :: (pre a ++ (pre b ++ pre c))
def wf : Str → Tm → Prop
  | k, .num i => k = "number" ∧ i.natAbs.log2 < 200
  | k, .nam w ns => tabOf k w = some (ns.map fun _ => ("name" : Str)) ∧ ∀ n ∈ ns, okName n = true
  | k, .one w a => ∃ ka, tabOf k w = some [ka] ∧ ka ≠ "name" ∧ wf ka a
  | k, .two w a b => ∃ ka kb, tabOf k w = some [ka, kb] ∧ ka ≠ "name" ∧ kb ≠ "name" ∧ wf ka a ∧ wf kb b
  | k, .tri w a b c => ∃ ka kb kc, tabOf k w = some [ka, kb, kc] ∧ ka ≠ "name" ∧ kb ≠ "name" ∧ kc ≠ "name" ∧ wf ka a ∧ wf kb b ∧ wf kc c
theorem pre_len : ∀ t, (pre t).length = siz t
  | .num _ => rfl
  | .nam _ _ => rfl
  | .one _ a => by simp [pre, siz, pre_len a]
  | .two _ a b => by simp [pre, siz, pre_len a, pre_len b]
  | .tri _ a b c => by simp [pre, siz, pre_len a, pre_len b, pre_len c]; omega
theorem enc_wordy (t : Tm) : Wordy (enc t) := by
  cases t
  · exact .inl ⟨_, rfl⟩
  all_goals exact .inr ⟨_, _, rfl⟩
theorem name_len {n : Str} (h : okName n = true) : n.length ≤ 8 := by
  unfold okName at h
  simp only [Bool.and_eq_true, decide_eq_true_eq] at h -- k01
  exact h.1.2
theorem num_word {w : Str} {ks : List Str} (h : numTab w = some ks) : w.length ≤ 5 := by
  unfold numTab at h
  repeat' split at h
  all_goals first | (rename_i e; subst e; decide +kernel) | cases h
theorem cond_word {w : Str} {ks : List Str} (h : condTab w = some ks) : w.length ≤ 5 := by
  unfold condTab at h
  repeat' split at h
  all_goals first | (rename_i e; subst e; decide +kernel) | cases h
theorem tab_word {k w : Str} {ks : List Str} (h : tabOf k w = some ks) : w.length ≤ 5 := by
  unfold tabOf at h
  split at h
  · exact num_word h
  · exact cond_word h
theorem enc_str {t : Tm} {x : Str} : enc t ≠ .str x := by cases t <;> (intro h; cases h)
theorem enc_kiC {t : Tm} {k : Str} (hk : PyData.strOk k = true) (h : wf k t) : kiC (enc t) (.str k) := by
  refine ⟨⟨k, rfl, hk⟩, fun r e z hz x ex => ?_⟩
  subst ex
  cases t with
  | num i => cases e
  | nam w ns =>
    cases e
    rcases List.mem_cons.mp hz with e | e
    · cases e
      have := tab_word h.1
      omega
    · obtain ⟨n, hn, e⟩ := List.mem_map.mp e
      cases e
      have := name_len (h.2 x hn)
      omega
  | one w a =>
    obtain ⟨ka, ht, _⟩ := h
    cases e
    have := tab_word ht
    simp only [List.mem_cons, List.not_mem_nil, or_false] at hz
    rcases hz with e | e
    · cases e; omega
    · exact absurd e.symm enc_str
  | two w a b =>
    obtain ⟨ka, kb, ht, _⟩ := h
    cases e
    have := tab_word ht
    simp only [List.mem_cons, List.not_mem_nil, or_false] at hz
    rcases hz with e | e | e
    · cases e; omega
    · exact absurd e.symm enc_str
    · exact absurd e.symm enc_str
  | tri w a b c =>
    obtain ⟨ka, kb, kc, ht, _⟩ := h
    cases e
    have := tab_word ht
    simp only [List.mem_cons, List.not_mem_nil, or_false] at hz
    rcases hz with e | e | e | e
    · cases e; omega
    · exact absurd e.symm enc_str
    · exact absurd e.symm enc_str
    · exact absurd e.symm enc_str
theorem good_sub {d : PyData} {s : Str} (h : s ≠ "name") : goodK (d, s) = true := by
  show (!decide (s = "name") || isName d) = true
  rw [decide_eq_false h]
  rfl
theorem zip_names : ∀ {ns : List Str}, (∀ n ∈ ns, okName n = true) → ((ns.map PyData.str).zip (ns.map fun _ => ("name" : Str))).all goodK = true
  | [], _ => rfl
  | n :: ns, h => by
    show (goodK (.str n, "name") && ((ns.map PyData.str).zip (ns.map fun _ => ("name" : Str))).all goodK) = true
    rw [zip_names fun m hm => h m (List.mem_cons_of_mem _ hm)]
    have : goodK (.str n, "name") = true := by
      show (!decide (("name" : Str) = "name") || okName n) = true
      rw [h n List.mem_cons_self, Bool.or_true]
    rw [this]
    rfl
theorem ki_nam {w : Str} {ns : List Str} {k : Str} (h : wf k (.nam w ns)) : kindsIn (enc (.nam w ns)) k = some (ns.map fun _ => ("name" : Str)) := by
  show (tabOf k w).bind _ = _
  rw [h.1]
  show (if _ then _ else _) = _
  rw [if_pos ⟨by simp, zip_names h.2⟩]
theorem ki_one {w : Str} {a : Tm} {k ka : Str} (h : tabOf k w = some [ka]) (ha : ka ≠ "name") : kindsIn (enc (.one w a)) k = some [ka] := by
  show (tabOf k w).bind _ = _
  rw [h]
  show (if _ then _ else _) = _
  rw [if_pos ⟨rfl, by show (goodK _ && true) = true; rw [good_sub ha]; rfl⟩]
theorem ki_two {w : Str} {a b : Tm} {k ka kb : Str} (h : tabOf k w = some [ka, kb]) (ha : ka ≠ "name") (hb : kb ≠ "name") : kindsIn (enc (.two w a b)) k = some [ka, kb] := by
  show (tabOf k w).bind _ = _
  rw [h]
  show (if _ then _ else _) = _
  rw [if_pos ⟨rfl, by show (goodK _ && (goodK _ && true)) = true; rw [good_sub ha, good_sub hb]; rfl⟩]
theorem ki_tri {w : Str} {a b c : Tm} {k ka kb kc : Str} (h : tabOf k w = some [ka, kb, kc]) (ha : ka ≠ "name") (hb : kb ≠ "name") (hc : kc ≠ "name") : kindsIn (enc (.tri w a b c)) k = some [ka, kb, kc] := by
  show (tabOf k w).bind _ = _
  rw [h]
  show (if _ then _ else _) = _
  rw [if_pos ⟨rfl, by show (goodK _ && (goodK _ && (goodK _ && true))) = true; rw [good_sub ha, good_sub hb, good_sub hc]; rfl⟩]
theorem ki_num {i : Int} {k : Str} (h : wf k (.num i)) : kindsIn (enc (.num i)) k = some [] := by
  show (if k = "number" then some [] else none) = _
  rw [if_pos h.1]
inductive All2 {α β : Type} (r : α → β → Prop) : List α → List β → Prop
  | nil : All2 r [] []
  | cons {a as b bs} (h : r a b) (t : All2 r as bs) : All2 r (a :: as) (b :: bs)
theorem All2.app {α β : Type} {r : α → β → Prop} {as : List α} {bs : List β} (h : All2 r as bs) {a : α} {b : β} (q : r a b) : All2 r (as ++ [a]) (bs ++ [b]) := by
  induction h with
  | nil => exact .cons q .nil
  | cons h t ih => exact .cons h ih
theorem All2.len {α β : Type} {r : α → β → Prop} {as : List α} {bs : List β} (h : All2 r as bs) : as.length = bs.length := by
  induction h with
  | nil => rfl
  | cons h t ih => simp [ih]
theorem tab_k {k w : Str} {ks : List Str} (h : tabOf k w = some ks) {s : Str} (hs : s ∈ ks) (n : s ≠ "name") : s = "number" ∨ s = "condition" := by
  rcases (tab_all h).2 s hs with e | e
  · exact absurd e n
  · exact e
theorem strOk_k {k : Str} (h : k = "number" ∨ k = "condition") : PyData.strOk k = true := by rcases h with rfl | rfl <;> decide +kernel
end T1

set_option Elab.async false
set_option linter.all false
set_option maxRecDepth 100000
namespace T1
open PySem PySem.Spec PyProof.Rows L2 DL

def chOk (x : Str) : Prop := ∀ c ∈ x.cps.toList, c < 1114112
mutual
def okV (e : Nat) : PyData → Prop
  | .none => True
  | .bool _ => True
  | .int i => i.natAbs ≤ e
  | .str x => chOk x
  | .list ds => okVL e ds
  | .tuple ds => okVL e ds
  | .dict _ => False
def okVL (e : Nat) : List PyData → Prop
  | [] => True
  | d :: ds => okV e d ∧ okVL e ds
end
mutual
def wt : PyData → Nat
  | .none => 6
  | .bool _ => 6
  | .int _ => 90
  | .str x => 10 * x.length + 6
  | .list ds => 6 + wtL ds
  | .tuple ds => 6 + wtL ds
  | .dict _ => 6
def wtL : List PyData → Nat
  | [] => 0
  | d :: ds => wt d + 2 + wtL ds
end
theorem okVL_iff {e : Nat} : ∀ {l : List PyData}, okVL e l ↔ ∀ d ∈ l, okV e d
  | [] => ⟨fun _ d h => (nomatch h), fun _ => trivial⟩
  | d :: r => Iff.intro (fun h x hx => by
      rcases List.mem_cons.mp hx with z | z
      · rw [z]; exact h.1
      · exact (okVL_iff (l := r)).mp h.2 x z) (fun h => And.intro (h d List.mem_cons_self) ((okVL_iff (l := r)).mpr fun x hx => h x (List.mem_cons_of_mem _ hx)))
mutual
theorem okV_le {e e' : Nat} (h : e ≤ e') : ∀ {d : PyData}, okV e d → okV e' d
  | .none, _ => trivial
  | .bool _, _ => trivial
  | .int i, k => Nat.le_trans (show i.natAbs ≤ e from k) h
  | .str _, k => k
  | .list ds, k => okVL_le h (ds := ds) k
  | .tuple ds, k => okVL_le h (ds := ds) k
  | .dict _, k => False.elim k
theorem okVL_le {e e' : Nat} (h : e ≤ e') : ∀ {ds : List PyData}, okVL e ds → okVL e' ds
  | [], _ => trivial
  | _ :: _, k => ⟨okV_le h k.1, okVL_le h k.2⟩
end
theorem wt_pos : ∀ d : PyData, 6 ≤ wt d
  | .none => Nat.le_refl _
  | .bool _ => Nat.le_refl _
  | .int _ => by show 6 ≤ 90; decide
  | .str _ => Nat.le_add_left _ _
  | .list _ => Nat.le_add_right _ _
  | .tuple _ => Nat.le_add_right _ _
  | .dict _ => Nat.le_refl _
theorem wtL_mem : ∀ {l : List PyData} {d : PyData}, d ∈ l → wt d + 2 ≤ wtL l
  | x :: r, d, h => by
    show _ ≤ wt x + 2 + wtL r
    rcases List.mem_cons.mp h with z | z -- k01
    · rw [z]; omega
    · have := wtL_mem z; omega
theorem wtL_len : ∀ l : List PyData, 8 * l.length ≤ wtL l
  | [] => Nat.le_refl _
  | x :: r => by
    show 8 * (r.length + 1) ≤ wt x + 2 + wtL r
    have := wtL_len r
    have := wt_pos x
    omega
theorem wtL_app : ∀ (l r : List PyData), wtL (l ++ r) = wtL l + wtL r
  | [], r => by show wtL r = 0 + wtL r; omega
  | x :: l, r => by
    show wt x + 2 + wtL (l ++ r) = wt x + 2 + wtL l + wtL r
    rw [wtL_app l r]; omega

theorem pw {e : Nat} (h : e < 2 ^ 255) {i : Int} (k : i.natAbs ≤ e) : i.natAbs.log2 < 1920 := by
  by_cases z : i.natAbs = 0
  · rw [z]; decide
  · have h1 := Nat.log2_self_le z
    have h2 : 2 ^ i.natAbs.log2 < 2 ^ 255 := by omega
    have := (Nat.pow_lt_pow_iff_right (by decide : 1 < 2)).mp h2
    omega
mutual
theorem okV_show {e : Nat} (h : e < 2 ^ 255) : ∀ {d : PyData}, okV e d → d.showable = true
  | .none, _ => rfl
  | .bool _, _ => rfl
  | .int _, k => decide_eq_true (pw h k)
  | .str _, _ => rfl
  | .list ds, k => okVL_show h (ds := ds) k
  | .tuple ds, k => okVL_show h (ds := ds) k
  | .dict _, k => False.elim k
theorem okVL_show {e : Nat} (h : e < 2 ^ 255) : ∀ {ds : List PyData}, okVL e ds → PyData.showableAll ds = true
  | [], _ => rfl
  | d :: ds, k => by
    show (PyData.showable d && PyData.showableAll ds) = true
    rw [okV_show h k.1, okVL_show h k.2]; rfl
end
theorem ch_strOk {x : Str} (h : chOk x) : PyData.strOk x = true := by
  unfold PyData.strOk
  rw [Array.all_eq_true]
  intro i hi
  exact decide_eq_true (h _ (by simp))
mutual
theorem okV_lay {e : Nat} : ∀ {d : PyData}, okV e d → d.canLay0 = true
  | .none, _ => rfl
  | .bool _, _ => rfl
  | .int _, _ => rfl
  | .str _, k => ch_strOk k
  | .list ds, k => okVL_lay (ds := ds) k
  | .tuple ds, k => okVL_lay (ds := ds) k
  | .dict _, k => False.elim k
theorem okVL_lay {e : Nat} : ∀ {ds : List PyData}, okVL e ds → PyData.canLayAll0 ds = true
  | [], _ => rfl
  | d :: ds, k => by
    show (PyData.canLay0 d && PyData.canLayAll0 ds) = true
    rw [okV_lay k.1, okVL_lay k.2]; rfl
end
theorem str_shown {x : Str} (c : chOk x) : (reprText x).length ≤ 10 * x.length + 2 := StrLaws.reprText_len x fun c' hc => by
  have e : (16 : Nat) ^ 8 = 4294967296 := by decide -- k01
  rw [e]
  have := c c' hc
  omega
theorem int_shown {e : Nat} (h : e < 2 ^ 255) {i : Int} (k : i.natAbs ≤ e) : (Str.ofString (toString i)).length ≤ 80 := by
  rw [PySem.ofString_length]
  have a : (2 : Nat) ^ 260 < 10 ^ 79 := by decide
  exact int_text_length_le10 (k := 79) (by decide) (by omega)
theorem sumL : ∀ {ds : List PyData}, (∀ d ∈ ds, d.shown.length ≤ wt d) → ((PyData.shownAll ds).map (·.length)).sum + 2 * (PyData.shownAll ds).length ≤ wtL ds
  | [], _ => Nat.le_refl _
  | d :: r, h => by
    show (d.shown.length + ((PyData.shownAll r).map (·.length)).sum) + 2 * ((PyData.shownAll r).length + 1) ≤ wt d + 2 + wtL r
    have a := h d List.mem_cons_self
    have b := sumL (ds := r) fun x hx => h x (List.mem_cons_of_mem _ hx)
    omega
mutual
theorem shown_wt {e : Nat} (h : e < 2 ^ 255) : ∀ {d : PyData}, okV e d → d.shown.length ≤ wt d
  | .none, _ => by decide
  | .bool true, _ => by decide
  | .bool false, _ => by decide
  | .int i, k => Nat.le_trans (int_shown h (i := i) k) (by show 80 ≤ 90; decide)
  | .str x, k => by
    show (reprText x).length ≤ 10 * x.length + 6
    have := str_shown (x := x) k
    omega
  | .list ds, k => by
    show (listText (PyData.shownAll ds)).length ≤ 6 + wtL ds
    have a := listText_len_le (PyData.shownAll ds)
    have b := sumL (shownL_wt h (ds := ds) k)
    omega
  | .tuple ds, k => by
    show (tupleText (PyData.shownAll ds)).length ≤ 6 + wtL ds
    have a := tupleText_len_le (PyData.shownAll ds)
    have b := sumL (shownL_wt h (ds := ds) k)
    omega
  | .dict _, k => False.elim k
theorem shownL_wt {e : Nat} (h : e < 2 ^ 255) : ∀ {ds : List PyData}, okVL e ds → ∀ d ∈ ds, d.shown.length ≤ wt d
  | [], _, _, hd => nomatch hd
  | x :: r, k, d, hd => by
    rcases List.mem_cons.mp hd with z | z
    · rw [z]; exact shown_wt h k.1
    · exact shownL_wt h k.2 d z
end
def Wr (d : PyData) : Prop := d.showable = true ∧ d.depth ≤ 60 ∧ d.shown.length ≤ 16777216
structure Gd (e n c : Nat) (d : PyData) : Prop where
  ok : okV e d
  dp : d.depth ≤ n
  wt : wt d ≤ c
theorem Gd.le {e n c e' n' c' : Nat} {d : PyData} (h : Gd e n c d) (he : e ≤ e') (hn : n ≤ n') (hc : c ≤ c') : Gd e' n' c' d := ⟨okV_le he h.ok, Nat.le_trans h.dp hn, Nat.le_trans h.wt hc⟩
theorem Gd.wr {e n c : Nat} {d : PyData} (h : Gd e n c d) (he : e < 2 ^ 255) (hn : n ≤ 60) (hc : c ≤ 16777216) : Wr d := ⟨okV_show he h.ok, Nat.le_trans h.dp hn, Nat.le_trans (shown_wt he h.ok) (Nat.le_trans h.wt hc)⟩
theorem Gd.sh {e n c : Nat} {d : PyData} (h : Gd e n c d) (hn : n ≤ 64) : SeqAt.shaped d = true := by
  unfold SeqAt.shaped
  rw [okV_lay h.ok, decide_eq_true (Nat.le_trans h.dp hn)]; rfl
theorem depth_mem : ∀ {l : List PyData} {d : PyData}, d ∈ l → d.depth ≤ PyData.depthAll l
  | x :: r, d, h => by
    show _ ≤ max (PyData.depth x) (PyData.depthAll r)
    rcases List.mem_cons.mp h with z | z -- k01
    · rw [z]; omega
    · have := depth_mem z; omega
theorem depth_allL {n : Nat} : ∀ {l : List PyData}, (∀ d ∈ l, d.depth ≤ n) → PyData.depthAll l ≤ n
  | [], _ => Nat.zero_le _
  | d :: r, h => by
    show max (PyData.depth d) (PyData.depthAll r) ≤ n
    have a := h d List.mem_cons_self
    have b := depth_allL (l := r) fun x hx => h x (List.mem_cons_of_mem _ hx)
    omega
def itm : PyData → Option (List PyData) | .tuple ds => some ds | .list ds => some ds | _ => none
theorem Gd.mem {e n c : Nat} {d x : PyData} {ds : List PyData} (h : Gd e n c d) (hd : itm d = some ds) (hx : x ∈ ds) : okV e x ∧ x.depth + 1 ≤ n ∧ T1.wt x + 8 ≤ c := by
  cases d <;> (try cases hd)
  · have a := okVL_iff.mp (show okVL e ds from h.ok) x hx
    have b := depth_mem hx
    have b' : PyData.depthAll ds + 1 ≤ n := h.dp
    have c1 := wtL_mem hx
    have c2 : 6 + wtL ds ≤ c := h.wt
    exact ⟨a, by omega, by omega⟩
  · have a := okVL_iff.mp (show okVL e ds from h.ok) x hx
    have b := depth_mem hx
    have b' : PyData.depthAll ds + 1 ≤ n := h.dp
    have c1 := wtL_mem hx
    have c2 : 6 + wtL ds ≤ c := h.wt
    exact ⟨a, by omega, by omega⟩
end T1

set_option Elab.async false
set_option linter.all false
set_option maxRecDepth 100000
namespace T1
open PySem PySem.Spec PyProof.Rows L2 DL
local macro_rules | `(tactic| walk_at "ds T1w") => `(tactic| simp only [↓dSeq, ↓dIfS, ↓dRet, ↓dRetN, ↓dAsg, ↓dAsgO, ↓dSet_eq, ↓sc_n, ↓sc_d, ↓sc_o, ↓sc_y, ↓dDrop, ↓dAsgG, ↓dPar2, ↓dPar3, ↓dPopAt, ↓dInsert, ↓dRevL, ↓dRevT, ↓bRepS, ↓dgTup, ↓dgCons, ↓dgName, ↓dgNil, ↓dNext, ↓dBreak, ↓dCont, ↓dVar, ↓dC, ↓dOp, ↓dTest, ↓dAnd, ↓dOr, ↓dNot, ↓dAndV, ↓dOrV, ↓dNotV, ↓dIf, ↓dIfL, ↓dNil, ↓dCons, ↓dTup, ↓dLst, ↓dFrz, ↓dCall, ↓dCallP, ↓dCallF, ↓dCallN, ↓dSeqOf, ↓dRange1, ↓dRange2, ↓dEnum, ↓dZip, ↓dForD, ↓forD, ↓dLcD, ↓dYes, ↓dAppend, ↓dPop, ↓dExtend, ↓dSetItem, ↓dTruO, ↓bInt, ↓bAdd, ↓bAddB, ↓dNeg, ↓bEq, ↓bNe, ↓bIs, ↓bIsNot, ↓bLt, ↓bLe, ↓bGt, ↓bGe, ↓bOrd, ↓dChain, ↓bIn, ↓bIx, ↓dIxO, ↓dLenO, ↓dNo, ↓dYesO, ↓dSlice, ↓SlD, ↓dIsi, ↓dIsi2, ↓cLen, ↓cAll, ↓cStr, ↓cInt, ↓cTuple, ↓dListOf, ↓dCat, ↓dJoin, ↓dFmt, ↓dJs, ↓dJoined, ↓dGetT, ↓dInT, ↓dRev1, ↓bRep, ↓q1_at, ↓q2_at, ↓q3_at, ↓popex, ↓atx0, ↓atx1, ↓atx2, ↓atx3, ↓reduceIte,
  wipeD, backD, isInt, cast_succ_ne, at0, at1, at2, at3, ex_some, cut1, eqvS, eqvI, shS, shI, flatD, popget, emp_app, down0, down1, down2, down3, List.dropLast_concat, List.all_cons, List.all_nil, Bool.and_true, decide_eq_true_eq, isTy, isNone, startD, startF, List.map_cons, List.map_nil, List.length_cons, List.length_nil, List.nil_append, List.cons_append, List.replicate, List.getElem?_cons_zero, List.getElem?_cons_succ, List.getElem?_nil, List.set_cons_zero, List.set_cons_succ, List.set_nil, Nat.zero_add, Nat.reduceAdd, Nat.reduceSub, Nat.reduceLT, Nat.reduceLeDiff, Int.reduceAdd, Int.reduceSub, Int.toNat_natCast, if_true, if_false, ite_true, ite_false, Bool.false_eq_true, Bool.not_true, Bool.not_false, Bool.true_eq_false, true_and, and_true, Nat.sub_self, Nat.sub_zero, Nat.reduceMul, List.replicate_zero, List.append_nil])

mutual
def fw : PyData → Str → List Int → Option (List Int)
  | .tuple (c :: cs), k, p => match kindsIn (.tuple (c :: cs)) k with
    | none => some p
    | some ks => fwL cs ks p 1
  | d, k, p => match kindsIn d k with
    | none => some p
    | some _ => none
def fwL : List PyData → List Str → List Int → Int → Option (List Int)
  | c :: cs, s :: ks, p, j => if s = "name" then fwL cs ks p (j + 1) else (fw c s (p ++ [j])).or (fwL cs ks p (j + 1))
  | _, _, _, _ => none
end
abbrev Ce := PyData × Str × List Int
def fsL : List Ce → Option (List Int)
  | [] => none
  | e :: r => (fw e.1 e.2.1 e.2.2).or (fsL r)
def chl : List PyData → List Str → List Int → Int → List Ce
  | c :: cs, s :: ks, p, j => if s = "name" then chl cs ks p (j + 1) else (c, s, p ++ [j]) :: chl cs ks p (j + 1)
  | _, _, _, _ => []
theorem fs_chl : ∀ (cs : List PyData) (ks : List Str) (p : List Int) (j : Int) (st : List Ce), fsL (chl cs ks p j ++ st) = (fwL cs ks p j).or (fsL st)
  | c :: cs, s :: ks, p, j, st => by
    unfold chl fwL
    by_cases h : s = "name"
    · rw [if_pos h, if_pos h]; exact fs_chl cs ks p (j + 1) st
    · rw [if_neg h, if_neg h]
      show (fw c s (p ++ [j])).or (fsL (chl cs ks p (j + 1) ++ st)) = _
      rw [fs_chl cs ks p (j + 1) st, Option.or_assoc]
  | [], _, _, _, _ => by simp [chl, fwL]
  | _ :: _, [], _, _, _ => by simp [chl, fwL]
theorem fw_none {d : PyData} {k : Str} {p : List Int} (h : kindsIn d k = none) : fw d k p = some p := by
  rcases d with _ | _ | _ | _ | _ | ds | _
  all_goals try (unfold fw; rw [h])
  cases ds <;> (unfold fw; rw [h])
theorem fw_tup {w : Str} {r : List PyData} {k : Str} {p : List Int} {ks : List Str} (h : kindsIn (.tuple (.str w :: r)) k = some ks) : fw (.tuple (.str w :: r)) k p = fwL r ks p 1 := by
  unfold fw; rw [h]
theorem fw_int {i : Int} {k : Str} {p : List Int} {ks : List Str} (h : kindsIn (.int i) k = some ks) : fw (.int i) k p = none := by
  unfold fw; rw [h]
theorem ki_some {d : PyData} {k : Str} {ks : List Str} (h : kindsIn d k = some ks) : (∃ i, d = .int i ∧ ks = []) ∨ ∃ w r, d = .tuple (.str w :: r) ∧ tabOf k w = some ks ∧ r.length = ks.length := by
  cases d with
  | int i =>
    have h : (if k = "number" then some [] else none) = some ks := h
    by_cases q : k = "number"
    · rw [if_pos q] at h; cases h; exact .inl ⟨i, rfl, rfl⟩
    · rw [if_neg q] at h; cases h
  | tuple r =>
    cases r with
    | nil => cases h
    | cons z r =>
      cases z with
      | str w =>
        have h : ((tabOf k w).bind fun ks => if r.length = ks.length ∧ (r.zip ks).all goodK = true then some ks else none) = some ks := h
        cases hT : tabOf k w with
        | none => rw [hT] at h; cases h
        | some kk =>
          rw [hT] at h
          have h : (if r.length = kk.length ∧ (r.zip kk).all goodK = true then some kk else none) = some ks := h
          by_cases q : r.length = kk.length ∧ (r.zip kk).all goodK = true
          · rw [if_pos q] at h; cases h; exact .inr ⟨w, r, rfl, hT, q.1⟩
          · rw [if_neg q] at h; cases h
      | _ => cases h
  | _ => cases h

def RowsOk (rows : List PyData) (ps : List (List Int)) : Prop := rows.length = ps.length ∧ ∀ (i : Nat) (p : List Int), ps[i]? = some p → ∃ (d : PyData) (a j : Int), rows[i]? = some (.tuple [d, .int a, .int j]) ∧ (i = 0 → p = []) ∧ (0 < i → ∃ q, 0 ≤ a ∧ a < i ∧ ps[a.toNat]? = some q ∧ p = q ++ [j])
def Come (ps : List (List Int)) (d : PyData) (e : Ce) : Prop := ∃ (a j : Int) (c : Bool), d = .tuple [e.1, .int a, .int j, .str e.2.1, .bool c] ∧ (e.2.1 = "number" ∨ e.2.1 = "condition") ∧ ((ps = [] ∧ e.2.2 = []) ∨ ∃ q, 0 ≤ a ∧ ps[a.toNat]? = some q ∧ e.2.2 = q ++ [j])
theorem rows_nil : RowsOk [] [] := ⟨rfl, fun i p h => by simp at h⟩
theorem getlt {α : Type} {xs : List α} {i : Nat} {x : α} (h : xs[i]? = some x) : i < xs.length := (List.getElem?_eq_some_iff.mp h).1
theorem get_app {α : Type} {xs ys : List α} {i : Nat} {x : α} (h : xs[i]? = some x) : (xs ++ ys)[i]? = some x := by rw [List.getElem?_append_left (getlt h)]; exact h
theorem rows_snoc {rows : List PyData} {ps : List (List Int)} {e : Ce} {a j : Int} (h : RowsOk rows ps) (c : (ps = [] ∧ e.2.2 = []) ∨ ∃ q, 0 ≤ a ∧ ps[a.toNat]? = some q ∧ e.2.2 = q ++ [j]) : RowsOk (rows ++ [.tuple [e.1, .int a, .int j]]) (ps ++ [e.2.2]) := by
  refine ⟨by rw [List.length_append, List.length_append, h.1]; rfl, fun i p hp => ?_⟩
  by_cases hi : i < ps.length
  · rw [List.getElem?_append_left hi] at hp
    obtain ⟨d, a', j', h1, h2, h3⟩ := h.2 i p hp
    refine ⟨d, a', j', get_app h1, h2, fun z => ?_⟩
    obtain ⟨q, q1, q2, q3, q4⟩ := h3 z
    exact ⟨q, q1, q2, get_app q3, q4⟩
  · have hi2 := getlt hp
    rw [List.length_append] at hi2
    have hi2 : i = ps.length := by simp at hi2; omega
    subst hi2
    rw [List.getElem?_append_right (Nat.le_refl _), Nat.sub_self] at hp
    cases hp
    refine ⟨e.1, a, j, by rw [← h.1, List.getElem?_append_right (Nat.le_refl _), Nat.sub_self]; rfl, fun z => ?_, fun z => ?_⟩
    · rcases c with ⟨_, c⟩ | ⟨q, q1, q2, q3⟩
      · exact c
      · have := getlt q2; omega
    · rcases c with ⟨c, _⟩ | ⟨q, q1, q2, q3⟩
      · rw [c] at z; exact absurd z (by decide)
      · have := getlt q2
        exact ⟨q, q1, by omega, get_app q2, q3⟩
theorem come_app {ps : List (List Int)} {p : List Int} {d : PyData} {e : Ce} (h : Come ps d e) (ne : ps ≠ []) : Come (ps ++ [p]) d e := by
  obtain ⟨a, j, c, h1, h2, h3⟩ := h
  refine ⟨a, j, c, h1, h2, .inr ?_⟩
  rcases h3 with ⟨z, _⟩ | ⟨q, q1, q2, q3⟩
  · exact absurd z ne
  · exact ⟨q, q1, get_app q2, q3⟩
theorem All2.imp {α β : Type} {r r' : α → β → Prop} {as : List α} {bs : List β} (h : All2 r as bs) (m : ∀ a b, r a b → r' a b) : All2 r' as bs := by
  induction h with
  | nil => exact .nil
  | cons h t ih => exact .cons (m _ _ h) ih
def walkS : PSpec := fun ds W => ∃ t k, ds = [t, .str k, .none] ∧ (k = "number" ∨ k = "condition") ∧ wt t ≤ 100000 ∧ ∀ rows ps, RowsOk rows ps → rows.length ≤ 100000 →
  ((fw t k [] = none → W (.tuple [.list rows, .bool false])) ∧ (∀ q, fw t k [] = some q → ps[ps.length - 1]? = some q → W (.tuple [.list rows, .bool true])))
theorem walkS_mono : MonoP walkS := fun ds W W' m ⟨t, k, e, a, b, h⟩ => ⟨t, k, e, a, b, fun rows ps r l => ⟨fun z => m _ ((h rows ps r l).1 z), fun q z y => m _ ((h rows ps r l).2 q z y)⟩⟩
theorem S__walk : FnScope ["thing", "kind", "house", "rows", "coming", "part", "above", "k", "due", "counted", "kinds", "at", "within", "j"] ["thing", "kind", "house"] (defScope (top 16)) := ⟨rfl, rfl, rfl, by decide +kernel, rfl, by decide +kernel, by decide +kernel⟩
def swt (st : List Ce) : Nat := (st.map fun e => wt e.1).sum
theorem swt_len : ∀ st : List Ce, st.length ≤ swt st
  | [] => Nat.le_refl _
  | e :: st => by
    have := swt_len st
    have := wt_pos e.1
    show st.length + 1 ≤ wt e.1 + swt st
    omega
def WI (t0 : PyData) (k0 : Str) (m : Nat) (Γ : DEnv) : Prop := ∃ rows cs st ps y5 y6 y7 y8 y9 ya yb yc yd, Γ = [some (Ent.dat t0), some (Ent.dat (PyData.str k0)), some (Ent.dat PyData.none), some (Ent.own rows), some (Ent.own cs.reverse), odat y5, odat y6, odat y7, odat y8, odat y9, odat ya, odat yb, odat yc, odat yd] ∧
  RowsOk rows ps ∧ All2 (Come ps) cs st ∧ (ps = [] → st.length ≤ 1) ∧ fsL st = fw t0 k0 [] ∧ rows.length + swt st ≤ 100000 ∧ m = swt st
theorem WI.mk {t0 : PyData} {k0 : Str} {rows cs' : List PyData} {ps : List (List Int)} {st' : List Ce} {y5 y6 y7 y8 y9 ya yb yc : PyData} {e : Option Ent} {m : Nat} (hr : RowsOk rows ps) (hc : All2 (Come ps) cs' st') (ne : ps ≠ []) (hp : fsL st' = fw t0 k0 []) (hb : rows.length + swt st' ≤ 100000) {l : List PyData} (hl : l = cs'.reverse) (he : ∃ y, e = odat y) (hm : swt st' < m) :
    ∃ m', m' < m ∧ WI t0 k0 m' [some (Ent.dat t0), some (Ent.dat (PyData.str k0)), some (Ent.dat PyData.none), some (Ent.own rows), some (Ent.own l), some (Ent.dat y5), some (Ent.dat y6), some (Ent.dat y7), some (Ent.dat y8), some (Ent.dat y9), some (Ent.dat ya), some (Ent.dat yb), some (Ent.dat yc), e] := by
  obtain ⟨y, rfl⟩ := he
  exact ⟨_, hm, rows, cs', st', ps, some y5, some y6, some y7, some y8, some y9, some ya, some yb, some yc, y, by rw [hl]; rfl, hr, hc, fun z => absurd z ne, hp, hb, rfl⟩
theorem come_new {rows : List PyData} {x : PyData} {ps : List (List Int)} {p : List Int} {c : PyData} {s : Str} {j : Int} {b : Bool} (h : rows.length = ps.length) (hs : s = "number" ∨ s = "condition") : Come (ps ++ [p]) (.tuple [c, .int (((rows ++ [x]).length : Nat) - 1 : Int), .int j, .str s, .bool b]) (c, s, p ++ [j]) := by
  refine ⟨_, j, b, rfl, hs, .inr ⟨p, ?_, ?_, rfl⟩⟩
  · rw [List.length_append]; simp -- k01
  · have e : ((((rows ++ [x]).length : Nat) : Int) - 1).toNat = ps.length := by rw [List.length_append, h]; simp
    rw [e, List.getElem?_append_right (Nat.le_refl _), Nat.sub_self]; rfl
theorem len1 {α : Type} {r : List α} (h : r.length = 1) : ∃ a, r = [a] := by
  rcases r with _ | ⟨a, _ | ⟨b, r⟩⟩
  · cases h
  · exact ⟨a, rfl⟩
  · cases h
theorem len2 {α : Type} {r : List α} (h : r.length = 2) : ∃ a b, r = [a, b] := by
  rcases r with _ | ⟨a, _ | ⟨b, _ | ⟨c, r⟩⟩⟩
  · cases h
  · cases h
  · exact ⟨a, b, rfl⟩
  · cases h
theorem len3 {α : Type} {r : List α} (h : r.length = 3) : ∃ a b c, r = [a, b, c] := by
  rcases r with _ | ⟨a, _ | ⟨b, _ | ⟨c, _ | ⟨d, r⟩⟩⟩⟩
  · cases h
  · cases h
  · cases h
  · exact ⟨a, b, c, rfl⟩
  · cases h
theorem ne_app {α : Type} {xs : List α} {a : α} : xs ++ [a] ≠ [] := by simp
theorem wt_kiC {d : PyData} {k : Str} (hk : PyData.strOk k = true) (h : wt d ≤ 100000) : kiC d (.str k) := by
  refine ⟨⟨k, rfl, hk⟩, fun r e z hz x ex => ?_⟩
  subst e ex
  have a := wtL_mem hz
  have b : 6 + wtL r ≤ 100000 := h
  have c : 10 * x.length + 6 + 2 ≤ wtL r := a
  omega
section
variable {P : Program} {w : World} {K : PySem.W.Frag} {mg : Str → Option Value} {base : Heap} {k : Nat} {f : Addr} {fd : FuncData}
theorem ok__walk (B : B0 mg) (F : Fun K "_walk" "_walk" (top 16) f fd) (g_NAME : HasStr mg "NAME" "name") (h__kinds_in : Has P w K mg base "_kinds_in" k ["part", "kind"] (spP K (q2 kiC kiF))) (h__fits : Has P w K mg base "_fits" k ["part", "house", "counted"] (spP K (q3 (fun _ e _ => e = .none) fun _ _ _ => .bool true)))
    (h__counts : Has P w K mg base "_counts" k ["part"] (spP K (q1 Wordy fun d => .bool (counts d)))) : FnOk P w K mg base CX0 (k + 1) f fd ["thing", "kind", "house"] (spP K walkS) := by
  refine okP F S__walk (fun ds Q ⟨_, _, e, _⟩ => by rw [e]; rfl) walkS_mono fun cdv A outer s H E R hr => ⟨_, (pdss_cons (pds_setO (i := 3) S__walk.nd (pdl_lst pda_nil)) (pdss_cons (pds_setO (i := 4) S__walk.nd (pdl_lst (pda_cons (pde_tup (pda_cons (pd_var 0) (pda_cons pd_int (pda_cons pd_int (pda_cons (pd_var 1) (pda_cons pd_bl pda_nil)))))) pda_nil))) (pdss_cons (pds_while PassesOwn.never (pdt_truO 4) (pdss_cons (pds_asg (pde_pop 4) (pdg_tup (n := 5) rfl (pdgs_cons (pdg_name 5 S__walk.nd) (pdgs_cons (pdg_name 6 S__walk.nd) (pdgs_cons (pdg_name 7 S__walk.nd) (pdgs_cons (pdg_name 8 S__walk.nd) (pdgs_cons (pdg_name 9 S__walk.nd) pdgs_nil))))))) (pdss_cons (pds_append 3 (pde_tup (pda_cons (pd_var 5) (pda_cons (pd_var 6) (pda_cons (pd_var 7) pda_nil))))) (pdss_cons (pds_set (i := 10) S__walk.nd (pde_callH q2_mono h__kinds_in hr (pda_cons (pd_var 5) (pda_cons (pd_var 8) pda_nil)))) (pdss_cons (pds_if (pdw_or (pdt_is (pd_var 10) pd_non) (pdw_or1 (pdt_not (pdt_val (pde_callH q3_mono h__fits hr (pda_cons (pd_var 5) (pda_cons (pd_var 2) (pda_cons (pd_var 9) pda_nil)))))))).t (pdss_one (pds_ret (pde_tup (pda_cons (pd_var 3) (pda_cons pd_bl pda_nil))))) pdss_nil) (pdss_cons (pds_set (i := 11) S__walk.nd (pde_sub (pde_lenO 3 B.len) pd_int)) (pdss_cons (pds_set (i := 12) S__walk.nd (pde_or (pd_var 9) (pde_one (pde_callH q1_mono h__counts hr (pda_cons (pd_var 5) pda_nil))))) (pdss_one (pds_forD PassesOwn.never rfl (pdi_rev1 (pde_len (pd_var 10) B.len) B.reversed B.range) (pdg_name 13 S__walk.nd) (pdss_one (pds_if (pdt_ne hr.units (pde_ix (pd_var 10) (pd_var 13)) (pd_globS g_NAME)) (pdss_one (pds_append 4 (pde_tup (pda_cons (pde_ix (pd_var 5) (pde_add (pd_var 13) pd_int)) (pda_cons (pd_var 11) (pda_cons (pde_add (pd_var 13) pd_int) (pda_cons (pde_ix (pd_var 10) (pd_var 13)) (pda_cons (pd_var 12) pda_nil)))))))) pdss_nil))))))))))) (pdss_one (pds_ret (pde_tup (pda_cons (pd_var 3) (pda_cons pd_bl pda_nil)))))))), ?_⟩
  rintro ds W ⟨t0, k0, rfl, hk0, z0, h⟩
  walk_at "ds T1w"
  refine ⟨WI t0 k0, ⟨_, [], [_], [(t0, k0, [])], [], none, none, none, none, none, none, none, none, none, rfl, rows_nil, .cons ⟨0, 0, false, rfl, hk0, .inl ⟨rfl, rfl⟩⟩ .nil, fun _ => Nat.le_refl _, by simp [fsL], by show 0 + (wt t0 + 0) ≤ 100000; omega, rfl⟩, ?_⟩
  rintro m Γ' ⟨rows, cs, st, ps, y5, y6, y7, y8, y9, ya, yb, yc, yd, rfl, hrow, hcome, hone, hfw, hb, rfl⟩
  have few : rows.length < 1000000 := by omega
  cases hcome with
  | nil =>
    walk_at "ds T1w"
    exact (h rows ps hrow (by omega)).1 hfw.symm
  | @cons d cs e st hc ht =>
    obtain ⟨a, j, c, rfl, hk, hpos⟩ := hc
    obtain ⟨x, k1, p⟩ := e
    have hk : k1 = "number" ∨ k1 = "condition" := hk
    rw [List.reverse_cons]
    have hrow' : RowsOk (rows ++ [PyData.tuple [x, PyData.int a, PyData.int j]]) (ps ++ [p]) := rows_snoc (e := (x, k1, p)) hrow hpos
    have ht' : All2 (Come (ps ++ [p])) cs st := by
      by_cases z : ps = []
      · have := hone z
        have e0 : st = [] := by
          cases st with
          | nil => rfl
          | cons _ _ => simp at this
        subst e0
        cases ht
        exact .nil
      · exact ht.imp fun _ _ q => come_app q z
    have hsw : swt ((x, k1, p) :: st) = wt x + swt st := rfl
    rw [hsw] at hb
    have hrl : rows.length = ps.length := hrow.1
    have wx := wt_pos x
    have len_cs : cs.length < 900000 := by
      have e1 := ht.len
      have e2 := swt_len st
      omega
    have len_r : (rows ++ [PyData.tuple [x, PyData.int a, PyData.int j]]).length = rows.length + 1 := List.length_append
    have hfw : (fw x k1 p).or (fsL st) = fw t0 k0 [] := hfw
    have kc : kiC x (.str k1) := wt_kiC (strOk_k hk) (by omega)
    rw [hsw]
    cases c <;>
    (walk_at "ds T1w"
     refine ⟨few, kc, ?_⟩
     cases hK : kindsIn x k1 with
      | none =>
        rw [show kiF x (.str k1) = .none from congrArg kOut hK]
        walk_at "ds T1w"
        have e1 : fw t0 k0 [] = some p := by rw [← hfw, fw_none hK]; rfl
        exact (h _ _ hrow' (by omega)).2 p e1 (popget _ _)
      | some ks =>
        rw [show kiF x (.str k1) = tupS ks from congrArg kOut hK]
        rcases ki_some hK with ⟨i, rfl, rfl⟩ | ⟨w1, r, rfl, hT, hl⟩
        · have e1 : fsL st = fw t0 k0 [] := by rw [← hfw, fw_int hK]; rfl
          simp only [tupS, List.map_nil]
          walk_at "ds T1w"
          (try refine ⟨.inl ⟨_, rfl⟩, ?_⟩)
          exact ⟨⟨by decide, by decide⟩, WI.mk hrow' ht' ne_app e1 (by omega) rfl ⟨_, rfl⟩ (by omega)⟩
        · have e1 : fsL (chl r ks p 1 ++ st) = fw t0 k0 [] := by rw [fs_chl, ← hfw, fw_tup hK]
          have h3 := tab_few hT
          rcases ks with _ | ⟨s1, _ | ⟨s2, _ | ⟨s3, _ | ⟨s4, kr⟩⟩⟩⟩
          · obtain rfl := List.length_eq_zero_iff.mp hl
            simp only [chl, List.nil_append] at e1
            have hw : wt (.tuple [.str w1]) = 6 + (10 * w1.length + 6 + 2 + 0) := rfl
            simp only [tupS, List.map_nil]
            walk_at "ds T1w"
            (try refine ⟨.inr ⟨_, _, rfl⟩, ?_⟩)
            exact ⟨⟨by decide, by decide⟩, WI.mk hrow' ht' ne_app e1 (by omega) rfl ⟨_, rfl⟩ (by omega)⟩
          · obtain ⟨c1, rfl⟩ := len1 hl
            have hw : wt (.tuple [.str w1, c1]) = 6 + (10 * w1.length + 6 + 2 + (wt c1 + 2 + 0)) := rfl
            by_cases n1 : s1 = "name"
            · subst n1
              simp only [chl, if_true, if_false, eq_self, reduceIte, List.cons_append, List.nil_append, Int.reduceAdd] at e1
              simp only [tupS, List.map_cons, List.map_nil]
              walk_at "ds T1w"
              try simp only [decide_true]
              try walk_at "ds T1w"
              (try refine ⟨.inr ⟨_, _, rfl⟩, ?_⟩)
              exact ⟨⟨by decide, by decide⟩, by decide +kernel, by decide +kernel, WI.mk hrow' ht' ne_app e1 (by simp only [swt, List.map_cons, List.sum_cons] at hb ⊢; omega) (by (simp only [List.reverse_cons, List.append_assoc, List.nil_append, List.cons_append]) <;> rfl) ⟨some _, rfl⟩ (by simp only [swt, List.map_cons, List.sum_cons]; omega)⟩
            · skip
              simp only [chl, n1, if_true, if_false, eq_self, reduceIte, List.cons_append, List.nil_append, Int.reduceAdd] at e1
              simp only [tupS, List.map_cons, List.map_nil]
              walk_at "ds T1w"
              try simp only [decide_eq_false n1, decide_true]
              try walk_at "ds T1w"
              (try refine ⟨.inr ⟨_, _, rfl⟩, ?_⟩)
              exact ⟨⟨by decide, by decide⟩, tab_ok hT _ (by simp), by decide +kernel, by (try simp only [List.length_append, List.length_reverse, List.length_cons, List.length_nil]); omega, WI.mk hrow' (.cons (come_new hrl (tab_k hT (by simp) n1)) ht') ne_app e1 (by simp only [swt, List.map_cons, List.sum_cons] at hb ⊢; omega) (by (simp only [List.reverse_cons, List.append_assoc, List.nil_append, List.cons_append]) <;> rfl) ⟨some _, rfl⟩ (by simp only [swt, List.map_cons, List.sum_cons]; omega)⟩
          · obtain ⟨c1, c2, rfl⟩ := len2 hl
            have hw : wt (.tuple [.str w1, c1, c2]) = 6 + (10 * w1.length + 6 + 2 + (wt c1 + 2 + (wt c2 + 2 + 0))) := rfl
            by_cases n1 : s1 = "name"
            · subst n1
              by_cases n2 : s2 = "name"
              · subst n2
                simp only [chl, if_true, if_false, eq_self, reduceIte, List.cons_append, List.nil_append, Int.reduceAdd] at e1
                simp only [tupS, List.map_cons, List.map_nil]
                walk_at "ds T1w"
                try simp only [decide_true]
                try walk_at "ds T1w"
                (try refine ⟨.inr ⟨_, _, rfl⟩, ?_⟩)
                exact ⟨⟨by decide, by decide⟩, by decide +kernel, by decide +kernel, by decide +kernel, by decide +kernel, WI.mk hrow' ht' ne_app e1 (by simp only [swt, List.map_cons, List.sum_cons] at hb ⊢; omega) (by (simp only [List.reverse_cons, List.append_assoc, List.nil_append, List.cons_append]) <;> rfl) ⟨some _, rfl⟩ (by simp only [swt, List.map_cons, List.sum_cons]; omega)⟩
              · skip
                simp only [chl, n2, if_true, if_false, eq_self, reduceIte, List.cons_append, List.nil_append, Int.reduceAdd] at e1
                simp only [tupS, List.map_cons, List.map_nil]
                walk_at "ds T1w"
                try simp only [decide_eq_false n2, decide_true]
                try walk_at "ds T1w"
                (try refine ⟨.inr ⟨_, _, rfl⟩, ?_⟩)
                exact ⟨⟨by decide, by decide⟩, tab_ok hT _ (by simp), by decide +kernel, by (try simp only [List.length_append, List.length_reverse, List.length_cons, List.length_nil]); omega, by decide +kernel, by decide +kernel, WI.mk hrow' (.cons (come_new hrl (tab_k hT (by simp) n2)) ht') ne_app e1 (by simp only [swt, List.map_cons, List.sum_cons] at hb ⊢; omega) (by (simp only [List.reverse_cons, List.append_assoc, List.nil_append, List.cons_append]) <;> rfl) ⟨some _, rfl⟩ (by simp only [swt, List.map_cons, List.sum_cons]; omega)⟩
            · skip
              by_cases n2 : s2 = "name"
              · subst n2
                simp only [chl, n1, if_true, if_false, eq_self, reduceIte, List.cons_append, List.nil_append, Int.reduceAdd] at e1
                simp only [tupS, List.map_cons, List.map_nil]
                walk_at "ds T1w"
                try simp only [decide_eq_false n1, decide_true]
                try walk_at "ds T1w"
                (try refine ⟨.inr ⟨_, _, rfl⟩, ?_⟩)
                exact ⟨⟨by decide, by decide⟩, by decide +kernel, by decide +kernel, tab_ok hT _ (by simp), by decide +kernel, by (try simp only [List.length_append, List.length_reverse, List.length_cons, List.length_nil]); omega, WI.mk hrow' (.cons (come_new hrl (tab_k hT (by simp) n1)) ht') ne_app e1 (by simp only [swt, List.map_cons, List.sum_cons] at hb ⊢; omega) (by (simp only [List.reverse_cons, List.append_assoc, List.nil_append, List.cons_append]) <;> rfl) ⟨some _, rfl⟩ (by simp only [swt, List.map_cons, List.sum_cons]; omega)⟩
              · skip
                simp only [chl, n1, n2, if_true, if_false, eq_self, reduceIte, List.cons_append, List.nil_append, Int.reduceAdd] at e1
                simp only [tupS, List.map_cons, List.map_nil]
                walk_at "ds T1w"
                try simp only [decide_eq_false n1, decide_eq_false n2, decide_true]
                try walk_at "ds T1w"
                (try refine ⟨.inr ⟨_, _, rfl⟩, ?_⟩)
                exact ⟨⟨by decide, by decide⟩, tab_ok hT _ (by simp), by decide +kernel, by (try simp only [List.length_append, List.length_reverse, List.length_cons, List.length_nil]); omega, tab_ok hT _ (by simp), by decide +kernel, by (try simp only [List.length_append, List.length_reverse, List.length_cons, List.length_nil]); omega, WI.mk hrow' (.cons (come_new hrl (tab_k hT (by simp) n1)) (.cons (come_new hrl (tab_k hT (by simp) n2)) ht')) ne_app e1 (by simp only [swt, List.map_cons, List.sum_cons] at hb ⊢; omega) (by (simp only [List.reverse_cons, List.append_assoc, List.nil_append, List.cons_append]) <;> rfl) ⟨some _, rfl⟩ (by simp only [swt, List.map_cons, List.sum_cons]; omega)⟩
          · obtain ⟨c1, c2, c3, rfl⟩ := len3 hl
            have hw : wt (.tuple [.str w1, c1, c2, c3]) = 6 + (10 * w1.length + 6 + 2 + (wt c1 + 2 + (wt c2 + 2 + (wt c3 + 2 + 0)))) := rfl
            by_cases n1 : s1 = "name"
            · subst n1
              by_cases n2 : s2 = "name"
              · subst n2
                by_cases n3 : s3 = "name"
                · subst n3
                  simp only [chl, if_true, if_false, eq_self, reduceIte, List.cons_append, List.nil_append, Int.reduceAdd] at e1
                  simp only [tupS, List.map_cons, List.map_nil]
                  walk_at "ds T1w"
                  try simp only [decide_true]
                  try walk_at "ds T1w"
                  (try refine ⟨.inr ⟨_, _, rfl⟩, ?_⟩)
                  exact ⟨⟨by decide, by decide⟩, by decide +kernel, by decide +kernel, by decide +kernel, by decide +kernel, by decide +kernel, by decide +kernel, WI.mk hrow' ht' ne_app e1 (by simp only [swt, List.map_cons, List.sum_cons] at hb ⊢; omega) (by (simp only [List.reverse_cons, List.append_assoc, List.nil_append, List.cons_append]) <;> rfl) ⟨some _, rfl⟩ (by simp only [swt, List.map_cons, List.sum_cons]; omega)⟩
                · skip
                  simp only [chl, n3, if_true, if_false, eq_self, reduceIte, List.cons_append, List.nil_append, Int.reduceAdd] at e1
                  simp only [tupS, List.map_cons, List.map_nil]
                  walk_at "ds T1w"
                  try simp only [decide_eq_false n3, decide_true]
                  try walk_at "ds T1w"
                  (try refine ⟨.inr ⟨_, _, rfl⟩, ?_⟩)
                  exact ⟨⟨by decide, by decide⟩, tab_ok hT _ (by simp), by decide +kernel, by (try simp only [List.length_append, List.length_reverse, List.length_cons, List.length_nil]); omega, by decide +kernel, by decide +kernel, by decide +kernel, by decide +kernel, WI.mk hrow' (.cons (come_new hrl (tab_k hT (by simp) n3)) ht') ne_app e1 (by simp only [swt, List.map_cons, List.sum_cons] at hb ⊢; omega) (by (simp only [List.reverse_cons, List.append_assoc, List.nil_append, List.cons_append]) <;> rfl) ⟨some _, rfl⟩ (by simp only [swt, List.map_cons, List.sum_cons]; omega)⟩
              · skip
                by_cases n3 : s3 = "name"
                · subst n3
                  simp only [chl, n2, if_true, if_false, eq_self, reduceIte, List.cons_append, List.nil_append, Int.reduceAdd] at e1
                  simp only [tupS, List.map_cons, List.map_nil]
                  walk_at "ds T1w"
                  try simp only [decide_eq_false n2, decide_true]
                  try walk_at "ds T1w"
                  (try refine ⟨.inr ⟨_, _, rfl⟩, ?_⟩)
                  exact ⟨⟨by decide, by decide⟩, by decide +kernel, by decide +kernel, tab_ok hT _ (by simp), by decide +kernel, by (try simp only [List.length_append, List.length_reverse, List.length_cons, List.length_nil]); omega, by decide +kernel, by decide +kernel, WI.mk hrow' (.cons (come_new hrl (tab_k hT (by simp) n2)) ht') ne_app e1 (by simp only [swt, List.map_cons, List.sum_cons] at hb ⊢; omega) (by (simp only [List.reverse_cons, List.append_assoc, List.nil_append, List.cons_append]) <;> rfl) ⟨some _, rfl⟩ (by simp only [swt, List.map_cons, List.sum_cons]; omega)⟩
                · skip
                  simp only [chl, n2, n3, if_true, if_false, eq_self, reduceIte, List.cons_append, List.nil_append, Int.reduceAdd] at e1
                  simp only [tupS, List.map_cons, List.map_nil]
                  walk_at "ds T1w"
                  try simp only [decide_eq_false n2, decide_eq_false n3, decide_true]
                  try walk_at "ds T1w"
                  (try refine ⟨.inr ⟨_, _, rfl⟩, ?_⟩)
                  exact ⟨⟨by decide, by decide⟩, tab_ok hT _ (by simp), by decide +kernel, by (try simp only [List.length_append, List.length_reverse, List.length_cons, List.length_nil]); omega, tab_ok hT _ (by simp), by decide +kernel, by (try simp only [List.length_append, List.length_reverse, List.length_cons, List.length_nil]); omega, by decide +kernel, by decide +kernel, WI.mk hrow' (.cons (come_new hrl (tab_k hT (by simp) n2)) (.cons (come_new hrl (tab_k hT (by simp) n3)) ht')) ne_app e1 (by simp only [swt, List.map_cons, List.sum_cons] at hb ⊢; omega) (by (simp only [List.reverse_cons, List.append_assoc, List.nil_append, List.cons_append]) <;> rfl) ⟨some _, rfl⟩ (by simp only [swt, List.map_cons, List.sum_cons]; omega)⟩
            · skip
              by_cases n2 : s2 = "name"
              · subst n2
                by_cases n3 : s3 = "name"
                · subst n3
                  simp only [chl, n1, if_true, if_false, eq_self, reduceIte, List.cons_append, List.nil_append, Int.reduceAdd] at e1
                  simp only [tupS, List.map_cons, List.map_nil]
                  walk_at "ds T1w"
                  try simp only [decide_eq_false n1, decide_true]
                  try walk_at "ds T1w"
                  (try refine ⟨.inr ⟨_, _, rfl⟩, ?_⟩)
                  exact ⟨⟨by decide, by decide⟩, by decide +kernel, by decide +kernel, by decide +kernel, by decide +kernel, tab_ok hT _ (by simp), by decide +kernel, by (try simp only [List.length_append, List.length_reverse, List.length_cons, List.length_nil]); omega, WI.mk hrow' (.cons (come_new hrl (tab_k hT (by simp) n1)) ht') ne_app e1 (by simp only [swt, List.map_cons, List.sum_cons] at hb ⊢; omega) (by (simp only [List.reverse_cons, List.append_assoc, List.nil_append, List.cons_append]) <;> rfl) ⟨some _, rfl⟩ (by simp only [swt, List.map_cons, List.sum_cons]; omega)⟩
                · skip
                  simp only [chl, n1, n3, if_true, if_false, eq_self, reduceIte, List.cons_append, List.nil_append, Int.reduceAdd] at e1
                  simp only [tupS, List.map_cons, List.map_nil]
                  walk_at "ds T1w"
                  try simp only [decide_eq_false n1, decide_eq_false n3, decide_true]
                  try walk_at "ds T1w"
                  (try refine ⟨.inr ⟨_, _, rfl⟩, ?_⟩)
                  exact ⟨⟨by decide, by decide⟩, tab_ok hT _ (by simp), by decide +kernel, by (try simp only [List.length_append, List.length_reverse, List.length_cons, List.length_nil]); omega, by decide +kernel, by decide +kernel, tab_ok hT _ (by simp), by decide +kernel, by (try simp only [List.length_append, List.length_reverse, List.length_cons, List.length_nil]); omega, WI.mk hrow' (.cons (come_new hrl (tab_k hT (by simp) n1)) (.cons (come_new hrl (tab_k hT (by simp) n3)) ht')) ne_app e1 (by simp only [swt, List.map_cons, List.sum_cons] at hb ⊢; omega) (by (simp only [List.reverse_cons, List.append_assoc, List.nil_append, List.cons_append]) <;> rfl) ⟨some _, rfl⟩ (by simp only [swt, List.map_cons, List.sum_cons]; omega)⟩
              · skip
                by_cases n3 : s3 = "name"
                · subst n3
                  simp only [chl, n1, n2, if_true, if_false, eq_self, reduceIte, List.cons_append, List.nil_append, Int.reduceAdd] at e1
                  simp only [tupS, List.map_cons, List.map_nil]
                  walk_at "ds T1w"
                  try simp only [decide_eq_false n1, decide_eq_false n2, decide_true]
                  try walk_at "ds T1w"
                  (try refine ⟨.inr ⟨_, _, rfl⟩, ?_⟩)
                  exact ⟨⟨by decide, by decide⟩, by decide +kernel, by decide +kernel, tab_ok hT _ (by simp), by decide +kernel, by (try simp only [List.length_append, List.length_reverse, List.length_cons, List.length_nil]); omega, tab_ok hT _ (by simp), by decide +kernel, by (try simp only [List.length_append, List.length_reverse, List.length_cons, List.length_nil]); omega, WI.mk hrow' (.cons (come_new hrl (tab_k hT (by simp) n1)) (.cons (come_new hrl (tab_k hT (by simp) n2)) ht')) ne_app e1 (by simp only [swt, List.map_cons, List.sum_cons] at hb ⊢; omega) (by (simp only [List.reverse_cons, List.append_assoc, List.nil_append, List.cons_append]) <;> rfl) ⟨some _, rfl⟩ (by simp only [swt, List.map_cons, List.sum_cons]; omega)⟩
                · skip
                  simp only [chl, n1, n2, n3, if_true, if_false, eq_self, reduceIte, List.cons_append, List.nil_append, Int.reduceAdd] at e1
                  simp only [tupS, List.map_cons, List.map_nil]
                  walk_at "ds T1w"
                  try simp only [decide_eq_false n1, decide_eq_false n2, decide_eq_false n3, decide_true]
                  try walk_at "ds T1w"
                  (try refine ⟨.inr ⟨_, _, rfl⟩, ?_⟩)
                  exact ⟨⟨by decide, by decide⟩, tab_ok hT _ (by simp), by decide +kernel, by (try simp only [List.length_append, List.length_reverse, List.length_cons, List.length_nil]); omega, tab_ok hT _ (by simp), by decide +kernel, by (try simp only [List.length_append, List.length_reverse, List.length_cons, List.length_nil]); omega, tab_ok hT _ (by simp), by decide +kernel, by (try simp only [List.length_append, List.length_reverse, List.length_cons, List.length_nil]); omega, WI.mk hrow' (.cons (come_new hrl (tab_k hT (by simp) n1)) (.cons (come_new hrl (tab_k hT (by simp) n2)) (.cons (come_new hrl (tab_k hT (by simp) n3)) ht'))) ne_app e1 (by simp only [swt, List.map_cons, List.sum_cons] at hb ⊢; omega) (by (simp only [List.reverse_cons, List.append_assoc, List.nil_append, List.cons_append]) <;> rfl) ⟨some _, rfl⟩ (by simp only [swt, List.map_cons, List.sum_cons]; omega)⟩
          · exact absurd h3 (by simp))
end
end T1

set_option Elab.async false
set_option linter.all false
set_option maxRecDepth 100000
namespace T1
open PySem PySem.Spec PyProof.Rows L2 DL
def hgt : Tm → Nat
  | .num _ => 0
  | .nam _ _ => 0
  | .one _ a => hgt a + 1
  | .two _ a b => max (hgt a) (hgt b) + 1
  | .tri _ a b c => max (hgt a) (max (hgt b) (hgt c)) + 1
theorem sc_a {ds Q} : dSetC (some (some (Ent.arg ds))) Q = False := rfl
theorem s3_0 {α : Type} {a b c d x : α} {P : α → Prop} : (∃ z, atI ([a, b, c, d].set (Int.toNat 3) x) 0 = some z ∧ P z) ↔ P a := atx0
theorem s3_1 {α : Type} {a b c d x : α} {P : α → Prop} : (∃ z, atI ([a, b, c, d].set (Int.toNat 3) x) 1 = some z ∧ P z) ↔ P b := atx1
theorem s3_2 {α : Type} {a b c d x : α} {P : α → Prop} : (∃ z, atI ([a, b, c, d].set (Int.toNat 3) x) 2 = some z ∧ P z) ↔ P c := atx2
theorem s3_3 {α : Type} {a b c d x : α} {P : α → Prop} : (∃ z, atI ([a, b, c, d].set (Int.toNat 3) x) 3 = some z ∧ P z) ↔ P x := atx3
theorem s31_0 {α : Type} {a b c d x y : α} {P : α → Prop} : (∃ z, atI (([a, b, c, d].set (Int.toNat 3) x).set (Int.toNat 1) y) 0 = some z ∧ P z) ↔ P a := atx0
theorem s31_1 {α : Type} {a b c d x y : α} {P : α → Prop} : (∃ z, atI (([a, b, c, d].set (Int.toNat 3) x).set (Int.toNat 1) y) 1 = some z ∧ P z) ↔ P y := atx1
theorem s31_2 {α : Type} {a b c d x y : α} {P : α → Prop} : (∃ z, atI (([a, b, c, d].set (Int.toNat 3) x).set (Int.toNat 1) y) 2 = some z ∧ P z) ↔ P c := atx2
theorem s31_3 {α : Type} {a b c d x y : α} {P : α → Prop} : (∃ z, atI (([a, b, c, d].set (Int.toNat 3) x).set (Int.toNat 1) y) 3 = some z ∧ P z) ↔ P x := atx3
theorem sh_ints : ∀ cs : List Int, SeqAt.shaped (.list (cs.map .int)) = true := fun cs => by
  have h1 : ∀ l : List Int, PyData.canLayAll0 (l.map .int) = true := fun l => by
    induction l with
    | nil => rfl
    | cons a r ih =>
      show (PyData.canLay0 (.int a) && PyData.canLayAll0 (r.map .int)) = true
      rw [ih]; rfl
  have h2 : ∀ l : List Int, PyData.depthAll (l.map .int) = 0 := fun l => by
    induction l with
    | nil => rfl
    | cons a r ih =>
      show max (PyData.depth (.int a)) (PyData.depthAll (r.map .int)) = 0
      rw [ih]; rfl
  show (PyData.canLayAll0 (cs.map .int) && decide (PyData.depthAll (cs.map .int) + 1 ≤ 64)) = true
  rw [h1, h2]; rfl
theorem eq_nil (cs : List Int) : PyData.eqv (.list (cs.map .int)) (.list []) = decide (cs = []) := by
  cases cs with
  | nil => rfl
  | cons a r => rfl
local macro_rules | `(tactic| walk_at "ds T1g") => `(tactic| simp only [↓s3_0, ↓s3_1, ↓s3_2, ↓s3_3, ↓s31_0, ↓s31_1, ↓s31_2, ↓s31_3, sc_a, Bool.not_eq_true, decide_eq_false_iff_not, ↓dSeq, ↓dIfS, ↓dRet, ↓dRetN, ↓dAsg, ↓dAsgO, ↓dSet_eq, ↓sc_n, ↓sc_d, ↓sc_o, ↓sc_y, ↓dDrop, ↓dAsgG, ↓dgTup, ↓dgCons, ↓dgName, ↓dgNil, ↓dNext, ↓dBreak, ↓dCont, ↓dVar, ↓dC, ↓dOp, ↓dTest, ↓dAnd, ↓dOr, ↓dNot, ↓dAndV, ↓dOrV, ↓dNotV, ↓dIf, ↓dIfL, ↓dNil, ↓dCons, ↓dTup, ↓dLst, ↓dFrz, ↓dCall, ↓dCallP, ↓dCallF, ↓dCallN, ↓dSeqOf, ↓dRange1, ↓dRange2, ↓dEnum, ↓dZip, ↓dForD, ↓forD, ↓dLcD, ↓dYes, ↓dAppend, ↓dPop, ↓dExtend, ↓dSetItem, ↓dTruO, ↓bInt, ↓bAdd, ↓dNeg, ↓bEq, ↓bNe, ↓bIs, ↓bIsNot, ↓bLt, ↓bLe, ↓bGt, ↓bGe, ↓bOrd, ↓dChain, ↓bIn, ↓bIx, ↓dIxO, ↓dLenO, ↓dNo, ↓dYesO, ↓dSlice, ↓SlD, ↓dIsi, ↓dIsi2, ↓cLen, ↓cAll, ↓cStr, ↓cInt, ↓cTuple, ↓dListOf, ↓dCat, ↓dJoin, ↓dFmt, ↓dJs, ↓dJoined, ↓dGetT, ↓dInT, ↓dRev1, ↓bRep, ↓q1_at, ↓q2_at, ↓q3_at, ↓popex, ↓atx0, ↓atx1, ↓atx2, ↓atx3, ↓reduceIte,
  wipeD, backD, isInt, cast_succ_ne, at0, at1, at2, at3, ex_some, cut1, eqvS, eqvI, shS, shI, flatD, popget, emp_app, down0, down1, down2, down3, List.dropLast_concat, List.all_cons, List.all_nil, Bool.and_true, decide_eq_true_eq, isTy, isNone, startD, startF, List.map_cons, List.map_nil, List.length_cons, List.length_nil, List.nil_append, List.cons_append, List.replicate, List.getElem?_cons_zero, List.getElem?_cons_succ, List.getElem?_nil, List.set_cons_zero, List.set_cons_succ, List.set_nil, Nat.zero_add, Nat.reduceAdd, Nat.reduceSub, Nat.reduceLT, Nat.reduceLeDiff, Int.reduceAdd, Int.reduceSub, Int.toNat_natCast, if_true, if_false, ite_true, ite_false, Bool.false_eq_true, Bool.not_true, Bool.not_false, Bool.true_eq_false, true_and, and_true, Nat.sub_self, Nat.sub_zero, Nat.reduceMul, List.replicate_zero, List.append_nil])

structure RD (fs : List PyData) (n : Int) : Prop where
  ex : ∃ (cs : List Int) (i rest : Int), fs = [.list (cs.map .int), .int i, .int rest, .int n] ∧ cs.length ≤ 63 ∧ 0 ≤ i ∧ i ≤ n
def drS : FSpec := fun fs ds W => ∃ n many : Int, RD fs n ∧ 0 ≤ n ∧ n < 2 ^ 40 ∧ ds = [.int many] ∧ 0 < many ∧ many ≤ 100000 ∧ ∀ r fs', 0 ≤ r → r < many → RD fs' (n + 1) → W (.int r) fs'
theorem drS_mono : MonoF drS := fun fs ds W W' m ⟨n, many, a, b, c, d, e, f, h⟩ => ⟨n, many, a, b, c, d, e, f, fun r fs' h0 h1 h2 => m _ _ (h r fs' h0 h1 h2)⟩
theorem S__law_reader : FnScope ["_law_script"] ["_law_script"] (defScope (top 22)) := ⟨rfl, rfl, rfl, by decide +kernel, rfl, by decide +kernel, by decide +kernel⟩
theorem S__law_draw : FnScope ["_law_reader_here", "_law_many", "_law_found", "_law_cell", "_law_once"] ["_law_reader_here", "_law_many"] (defScope (top 23)) := ⟨rfl, rfl, rfl, by decide +kernel, rfl, by decide +kernel, by decide +kernel⟩
def rdN : NSpec := fun ds W => ∃ ns : List Int, ds = [.list (ns.map .int)] ∧ ns.length ≤ 63 ∧ ∀ fs, RD fs 0 → W fs
theorem rdN_mono : MonoN rdN := fun ds W W' m ⟨t, e, a, h⟩ => ⟨t, e, a, fun fs r => m _ (h fs r)⟩
theorem cut63 {ds : List PyData} (h : ds.length ≤ 63) : cutD ds none (some 63) = ds := by
  refine cutV_whole ⟨HT.sIx_none _ _, ?_⟩
  have := HT.sIx_nat ds.length ds.length 63
  rw [show (some (((63 : Nat) : Int))) = some (63 : Int) from rfl] at this
  rw [this]
  omega
theorem mix_ok {n c many : Int} (hn0 : 0 ≤ n) (hn : n < 2 ^ 40) (hm0 : 0 < many) {Z : Prop} (z : Z) :
    0 < (2147483549 : Int) ∧ CMul 7517 (n + 1) ∧ CPow (c % 2147483549 + 7517 * (n + 1) + 7) 5 ∧ 0 < (2147483629 : Int) ∧ CMul 94007 (n + 1) ∧ CPow ((c % 2147483549 + 7517 * (n + 1) + 7) ^ Int.toNat 5 % 2147483629 + 94007 * (n + 1)) 5 ∧ 0 < (2147483647 : Int) ∧
      CDivW (((c % 2147483549 + 7517 * (n + 1) + 7) ^ Int.toNat 5 % 2147483629 + 94007 * (n + 1)) ^ Int.toNat 5 % 2147483647) 64 ∧ 0 < many ∧ Z := by
  have hn : n < 1099511627776 := hn
  have h1 : (c % 2147483549 + 7517 * (n + 1) + 7).natAbs < 18446744073709551616 := by omega
  generalize (c % 2147483549 + 7517 * (n + 1) + 7) ^ Int.toNat 5 = y
  have h2 : (y % 2147483629 + 94007 * (n + 1)).natAbs < 18446744073709551616 := by omega
  exact ⟨by decide, .inl ⟨by decide, by decide⟩, ⟨by decide, by decide, h1⟩, by decide, .inl ⟨by decide, by decide⟩, ⟨by decide, by decide, h2⟩, by decide, ⟨by decide, by decide +kernel⟩, hm0, z⟩
section
variable {P : Program} {w : World} {K : PySem.W.Frag} {mg : Str → Option Value} {base : Heap} {k : Nat} {f : Addr} {fd : FuncData}
theorem ok__law_reader (F : Fun K "_law_reader" "_law_reader" (top 22) f fd) : FnOk P w K mg base CX0 (k + 1) f fd ["_law_script"] (spN K rdN) := by
  refine okN F S__law_reader (fun ds Q ⟨t, e, _⟩ => by rw [e]; rfl) fun cdv A outer s H E R hr => ⟨_, (pdn_ret (pdl_lst (pda_cons (pde_slice (pd_var 0) pdo_none (pdo_some pd_int)) (pda_cons pd_int (pda_cons pd_int (pda_cons pd_int pda_nil)))))), ?_⟩
  rintro ds W ⟨ns, rfl, hl, h⟩
  walk_at "ds T1g"
  rw [cut63 (by rw [List.length_map]; exact hl)]
  exact h _ ⟨ns, 0, 0, rfl, hl, by decide, by decide⟩
theorem ok__law_draw (B : B0 mg) (F : Fun K "_law_draw" "_law_draw" (top 23) f fd) : FnOk P w K mg base CX0 (k + 1) f fd ["_law_reader_here", "_law_many"] (spF K drS) := by
  refine okF F S__law_draw (fun fs ds Q ⟨n, m, _, _, _, e, _⟩ => by rw [e]; rfl) drS_mono fun cdv A outer s H E R hr => ⟨_, (pdss_cons (pds_setItem 0 (pde_add (pde_ixO 0 pd_int) pd_int) pd_int) (pdss_cons (pds_if (pdt_gt (pde_ixO 0 pd_int) pd_int) (pdss_cons (pds_set (i := 2) S__law_draw.nd (pde_mod (pde_int1 (pde_ixO 0 pd_int) B.int) (pd_var 1))) (pdss_cons (pds_setItem 0 (pde_fdiv (pde_ixO 0 pd_int) (pd_var 1)) pd_int) (pdss_one (pds_ret (pd_var 2))))) pdss_nil) (pdss_cons (pds_set (i := 3) S__law_draw.nd pd_int) (pdss_cons (pds_if (pdt_ne hr.units (pde_ixO 0 pd_int) (pde_frz (pdl_lst pda_nil))) (pdss_one (pds_set (i := 3) S__law_draw.nd (pde_ix (pde_ixO 0 pd_int) (pde_mod (pde_int1 (pde_ixO 0 pd_int) B.int) (pde_len (pde_ixO 0 pd_int) B.len))))) pdss_nil) (pdss_cons (pds_setItem 0 (pde_add (pde_ixO 0 pd_int) pd_int) pd_int) (pdss_cons (pds_if (pdw_and (pdt_ge (pd_var 3) (pde_pow pd_int pd_int)) (pdw_and1 (pdt_le (pde_ixO 0 pd_int) (pde_len (pde_ixO 0 pd_int) B.len)))).t (pdss_cons (pds_setItem 0 (pde_fdiv (pd_var 3) (pd_var 1)) pd_int) (pdss_one (pds_ret (pde_mod (pde_int1 (pd_var 3) B.int) (pd_var 1))))) pdss_nil) (pdss_cons (pds_set (i := 4) S__law_draw.nd (pde_mod (pde_int1 (pde_pow (pde_add (pde_add (pde_mod (pde_int1 (pd_var 3) B.int) pd_int) (pde_mul pd_int (pde_ixO 0 pd_int))) pd_int) pd_int) B.int) pd_int)) (pdss_one (pds_ret (pde_mod (pde_int1 (pde_fdiv (pde_mod (pde_int1 (pde_pow (pde_add (pd_var 4) (pde_mul pd_int (pde_ixO 0 pd_int))) pd_int) B.int) pd_int) pd_int) B.int) (pd_var 1))))))))))), ?_⟩
  rintro fs ds W ⟨n, many, ⟨cs, i, rest, rfl, hcs, hi0, hin⟩, hn0, hn, rfl, hm0, hm, h⟩
  have e63 : (cs.map PyData.int).length = cs.length := List.length_map _
  have mp : ∀ x : Int, 0 ≤ x % many ∧ x % many < many := fun x => ⟨Int.emod_nonneg _ (by omega), Int.emod_lt_of_pos _ hm0⟩
  have l4 : (2 : Int) < ((4 : Nat) : Int) := by decide
  have l4' : (1 : Int) < ((4 : Nat) : Int) := by decide
  have dv : ∀ x : Int, CDivW x many := fun x => wide_div hm0 (b := 18) (by omega) (by decide) (by decide)
  have fin : ∀ (x i' rest' : Int), 0 ≤ i' → i' ≤ n + 1 → ∀ es, some (some (Ent.arg [PyData.list (cs.map .int), .int i', .int rest', .int (n + 1)])) = some (some (Ent.arg es)) → W (.int (x % many)) es := fun x i' rest' h0 h1 es e => by
    cases e
    exact h _ _ (mp x).1 (mp x).2 ⟨cs, i', rest', rfl, hcs, h0, h1⟩
  walk_at "ds T1g"
  refine ⟨by decide, by decide, ?_⟩
  by_cases hr0 : 0 < rest
  · rw [if_pos hr0]
    exact ⟨hm0, dv _, by decide, l4, fin rest i (rest / many) hi0 (by omega)⟩
  · rw [if_neg hr0]
    refine ⟨sh_ints cs, sh_ints [], ?_⟩
    rw [eq_nil]
    by_cases hc : cs = []
    · subst hc
      walk_at "ds T1g"
      refine ⟨by decide, l4', ⟨by decide, by decide, by decide⟩, ?_⟩
      split
      · split
        · exact ⟨dv _, by decide, l4, hm0, fin _ (i + 1) _ (by omega) (by omega)⟩
        · exact mix_ok hn0 hn hm0 (fin _ (i + 1) rest (by omega) (by omega))
      · exact mix_ok hn0 hn hm0 (fin _ (i + 1) rest (by omega) (by omega))
    · have hl : 0 < cs.length := List.length_pos_iff.mpr hc
      simp only [decide_eq_false hc]
      walk_at "ds T1g"
      have hj : (i % (cs.length : Int)).toNat < cs.length := by
        have h1 := Int.emod_nonneg i (show (cs.length : Int) ≠ 0 by omega)
        have h2 := Int.emod_lt_of_pos i (show (0 : Int) < cs.length by omega)
        omega
      have ej : i % (cs.length : Int) = (((i % (cs.length : Int)).toNat : Nat) : Int) := by
        have h1 := Int.emod_nonneg i (show (cs.length : Int) ≠ 0 by omega)
        omega
      refine ⟨by rw [e63]; omega, .int cs[(i % (cs.length : Int)).toNat], ?_, by decide, l4', ⟨by decide, by decide, by decide⟩, ?_⟩
      · have z : atI (cs.map PyData.int) (((i % (cs.length : Int)).toNat : Nat) : Int) = some (.int cs[(i % (cs.length : Int)).toNat]) := atI_nat (by rw [List.getElem?_map, List.getElem?_eq_getElem hj]; rfl)
        rw [← ej] at z
        rw [e63]
        exact z
      · generalize cs[(i % (cs.length : Int)).toNat] = c
        walk_at "ds T1g"
        split
        · split
          · exact ⟨dv _, by decide, l4, hm0, fin _ (i + 1) _ (by omega) (by omega)⟩
          · exact mix_ok hn0 hn hm0 (fin _ (i + 1) rest (by omega) (by omega))
        · exact mix_ok hn0 hn hm0 (fin _ (i + 1) rest (by omega) (by omega))
end
end T1

set_option Elab.async false
set_option linter.all false
set_option maxRecDepth 100000
namespace T1
open PySem PySem.Spec PyProof.Rows L2 DL
structure nmOk (ns : List Str) : Prop where
  ne : ns ≠ []
  few : ns.length ≤ 1000
  ok : ∀ n ∈ ns, okName n = true
def lfS : FSpec := fun fs ds W => ∃ (crew slots : List Str) (ins : Bool) (n : Int), ds = [.tuple (crew.map .str), .tuple (slots.map .str), .bool ins] ∧ nmOk crew ∧ nmOk slots ∧ RD fs n ∧ 0 ≤ n ∧ n + 3 < 2 ^ 40 ∧
  ∀ t fs' n', RD fs' n' → n ≤ n' → n' ≤ n + 3 → wf "number" t → siz t = 1 → hgt t = 0 → W (enc t) fs'
theorem lfS_mono : MonoF lfS := fun fs ds W W' m ⟨c, s, i, n, a, b, c', d, e, f, h⟩ => ⟨c, s, i, n, a, b, c', d, e, f, fun t fs' n' h0 h1 h2 h3 h4 h5 => m _ _ (h t fs' n' h0 h1 h2 h3 h4 h5)⟩
def exS (kd : Str) (N : Nat) : FSpec := fun fs ds W => ∃ (crew slots : List Str) (ins : Bool) (d : Nat) (n : Int), ds = [.tuple (crew.map .str), .tuple (slots.map .str), .bool ins, .int d] ∧ d < N ∧ nmOk crew ∧ nmOk slots ∧ RD fs n ∧ 0 ≤ n ∧ n + (10 * 3 ^ d : Nat) < 2 ^ 40 ∧
  ∀ t fs' n', RD fs' n' → n ≤ n' → n' ≤ n + (10 * 3 ^ d : Nat) → wf kd t → siz t ≤ 10 * 3 ^ d → hgt t ≤ d + 1 → W (enc t) fs'
theorem exS_mono {kd N} : MonoF (exS kd N) := fun fs ds W W' m ⟨c, s, i, d, n, a, b, c', e, f, g, g', h⟩ => ⟨c, s, i, d, n, a, b, c', e, f, g, g', fun t fs' n' h0 h1 h2 h3 h4 h5 => m _ _ (h t fs' n' h0 h1 h2 h3 h4 h5)⟩
inductive PTag {α : Sort _} (f : α) : Type where | mk | other
def hid {α : Sort _} (f : α) (_ : PTag f) : α := f
theorem hid_1 {α β : Sort _} {f : α → β} {t : PTag f} {x : α} : hid f t x = f x := rfl
theorem dCallP_h {t : PSpec} {a : DA} {Γ : DEnv} {Q : PyData → DEnv → Prop} : dCallP t a Γ Q = a Γ fun ds Γ1 => t ds (hid (fun r => Q r Γ1) .mk) := rfl
theorem dCallN_h {t : NSpec} {a : DA} {Γ : DEnv} {Q : List PyData → DEnv → Prop} : dCallN t a Γ Q = a Γ fun ds Γ1 => t ds (hid (fun r => Q r Γ1) .mk) := rfl
theorem dCallF_h {i : Nat} {t : FSpec} {a : DA} {Γ : DEnv} {Q : PyData → DEnv → Prop} : dCallF i t a Γ Q = match Γ[i]? with
  | some (some (Ent.own _)) => a Γ fun ds Γ1 => (match Γ1[i]? with
    | some (some (Ent.own fs)) => t fs ds (hid (fun r es => Q r (Γ1.set i (some (Ent.own es)))) .mk)
    | _ => False)
  | some (some (Ent.arg _)) => a Γ fun ds Γ1 => (match Γ1[i]? with
    | some (some (Ent.arg fs)) => t fs ds (hid (fun r es => Q r (Γ1.set i (some (Ent.arg es)))) .mk)
    | _ => False)
  | _ => False := rfl
local macro_rules | `(tactic| walk_at "st T1h") => `(tactic| simp only [startF, startD, List.map_cons, List.map_nil, List.cons_append, List.nil_append, List.length_cons, List.length_nil, List.replicate, Nat.reduceAdd, Nat.reduceSub])
local macro_rules | `(tactic| walk_at "ds T1h") => `(tactic| simp only [sc_a, Bool.not_eq_true, decide_eq_false_iff_not, ↓dSeq, ↓dIfS, ↓dRet, ↓dRetN, ↓dAsg, ↓dAsgO, ↓dSet_eq, ↓sc_n, ↓sc_d, ↓sc_o, ↓sc_y, ↓dDrop, ↓dAsgG, ↓dgTup, ↓dgCons, ↓dgName, ↓dgNil, ↓dNext, ↓dBreak, ↓dCont, ↓dVar, ↓dC, ↓dOp, ↓dTest, ↓dAnd, ↓dOr, ↓dNot, ↓dAndV, ↓dOrV, ↓dNotV, ↓dIf, ↓dIfL, ↓dNil, ↓dCons, ↓dTup, ↓dLst, ↓dFrz, ↓dCall, ↓dCallP_h, ↓dCallF_h, ↓dCallN_h, ↓hid_1, ↓dSeqOf, ↓dRange1, ↓dRange2, ↓dEnum, ↓dZip, ↓dForD, ↓forD, ↓dLcD, ↓dYes, ↓dAppend, ↓dPop, ↓dExtend, ↓dSetItem, ↓dTruO, ↓bInt, ↓bAdd, ↓dNeg, ↓bEq, ↓bNe, ↓bIs, ↓bIsNot, ↓bLt, ↓bLe, ↓bGt, ↓bGe, ↓bOrd, ↓dChain, ↓bIn, ↓bIx, ↓dIxO, ↓dLenO, ↓dNo, ↓dYesO, ↓dSlice, ↓SlD, ↓dIsi, ↓dIsi2, ↓cLen, ↓cAll, ↓cStr, ↓cInt, ↓cTuple, ↓dListOf, ↓dCat, ↓dJoin, ↓dFmt, ↓dJs, ↓dJoined, ↓dGetT, ↓dInT, ↓dRev1, ↓bRep, ↓q1_at, ↓q2_at, ↓q3_at, ↓popex, ↓atx0, ↓atx1, ↓atx2, ↓atx3, ↓reduceIte,
  wipeD, backD, isInt, cast_succ_ne, at0, at1, at2, at3, ex_some, cut1, eqvS, eqvI, shS, shI, flatD, popget, emp_app, down0, down1, down2, down3, List.dropLast_concat, List.all_cons, List.all_nil, Bool.and_true, decide_eq_true_eq, isTy, isNone, startD, startF, List.map_cons, List.map_nil, List.length_cons, List.length_nil, List.nil_append, List.cons_append, List.replicate, List.getElem?_cons_zero, List.getElem?_cons_succ, List.getElem?_nil, List.set_cons_zero, List.set_cons_succ, List.set_nil, Nat.zero_add, Nat.reduceAdd, Nat.reduceSub, Nat.reduceLT, Nat.reduceLeDiff, Int.reduceAdd, Int.reduceSub, Int.toNat_natCast, if_true, if_false, ite_true, ite_false, Bool.false_eq_true, Bool.not_true, Bool.not_false, Bool.true_eq_false, true_and, and_true, Nat.sub_self, Nat.sub_zero, Nat.reduceMul, List.replicate_zero, List.append_nil])
theorem at_in {ds : List PyData} {r : Int} (h0 : 0 ≤ r) (h1 : r < ds.length) : ∃ z, atI ds r = some z ∧ z ∈ ds := by
  have hj : r.toNat < ds.length := by omega
  have er : r = ((r.toNat : Nat) : Int) := by omega
  refine ⟨ds[r.toNat], ?_, List.getElem_mem hj⟩
  have z : atI ds ((r.toNat : Nat) : Int) = some ds[r.toNat] := atI_nat (List.getElem?_eq_getElem hj)
  rw [← er] at z
  exact z
theorem at_name {ns : List Str} (o : nmOk ns) {r : Int} (h0 : 0 ≤ r) (h1 : r < ((ns.map PyData.str).length : Nat)) : ∃ x, atI (ns.map PyData.str) r = some (.str x) ∧ okName x = true := by
  obtain ⟨z, e, m⟩ := at_in h0 h1
  obtain ⟨x, hx, rfl⟩ := List.mem_map.mp m
  exact ⟨x, e, o.ok x hx⟩
theorem S__law_leaf : FnScope ["_law_reader_here", "_law_crew", "_law_slots", "_law_inside", "_law_way"] ["_law_reader_here", "_law_crew", "_law_slots", "_law_inside"] (defScope (top 32)) := ⟨rfl, rfl, rfl, by decide +kernel, rfl, by decide +kernel, by decide +kernel⟩
theorem S__law_condition : FnScope ["_law_reader_here", "_law_crew", "_law_slots", "_law_inside", "_law_deep", "_law_way", "_law_sign", "_law_one"] ["_law_reader_here", "_law_crew", "_law_slots", "_law_inside", "_law_deep"] (defScope (top 33)) := ⟨rfl, rfl, rfl, by decide +kernel, rfl, by decide +kernel, by decide +kernel⟩
section
variable {P : Program} {w : World} {K : PySem.W.Frag} {mg : Str → Option Value} {base : Heap} {k : Nat} {f : Addr} {fd : FuncData}
theorem wf_my {x : Str} (o : okName x = true) : wf "number" (.nam "my" [x]) := ⟨show tabOf "number" "my" = some [("name" : Str)] by decide +kernel, fun z hz => by rw [List.mem_singleton.mp hz]; exact o⟩
theorem wf_of {x y : Str} (o : okName x = true) (o' : okName y = true) : wf "number" (.nam "of" [x, y]) := ⟨show tabOf "number" "of" = some [("name" : Str), "name"] by decide +kernel, fun z hz => by
  simp only [List.mem_cons, List.not_mem_nil, or_false] at hz
  rcases hz with e | e
  · rw [e]; exact o
  · rw [e]; exact o'⟩
theorem leaf_int {z : PyData} (h : z ∈ [PyData.int 0, .int 1, .int 2, .int (-1), .int 3, .int (-7), .int 100, .int 1]) : ∃ i : Int, z = .int i ∧ i.natAbs.log2 < 200 := by
  simp only [List.mem_cons, List.not_mem_nil, or_false] at h
  rcases h with h | h | h | h | h | h | h | h <;> exact ⟨_, h, by decide⟩
theorem ok__law_leaf (B : B0 mg) (F : Fun K "_law_leaf" "_law_leaf" (top 32) f fd) (h__law_draw : Has P w K mg base "_law_draw" k ["_law_reader_here", "_law_many"] (spF K drS)) : FnOk P w K mg base CX0 (k + 1) f fd ["_law_reader_here", "_law_crew", "_law_slots", "_law_inside"] (spF K lfS) := by
  refine okF F S__law_leaf (fun fs ds Q ⟨_, _, _, _, e, _⟩ => by rw [e]; rfl) lfS_mono fun cdv A outer s H E R hr => ⟨_, (pdss_cons (pds_set (i := 4) S__law_leaf.nd (pde_callHF 0 drS_mono h__law_draw hr (pda_cons pd_int pda_nil))) (pdss_cons (pds_if (pdt_eq hr.units (pd_var 4) pd_int) (pdss_one (pds_ret (pde_ix (pde_frz (pdl_lst (pda_cons pd_int (pda_cons pd_int (pda_cons pd_int (pda_cons (pde_neg pd_int) (pda_cons pd_int (pda_cons (pde_neg pd_int) (pda_cons pd_int (pda_cons pd_int pda_nil)))))))))) (pde_callHF 0 drS_mono h__law_draw hr (pda_cons pd_int pda_nil))))) pdss_nil) (pdss_cons (pds_if (pdw_and (pdt_lt (pd_var 4) pd_int) (pdw_and1 (pdt_val (pd_var 3)))).t (pdss_one (pds_ret (pde_tup (pda_cons pd_str (pda_cons (pde_ix (pd_var 2) (pde_callHF 0 drS_mono h__law_draw hr (pda_cons (pde_len (pd_var 2) B.len) pda_nil))) pda_nil))))) pdss_nil) (pdss_one (pds_ret (pde_tup (pda_cons pd_str (pda_cons (pde_ix (pd_var 1) (pde_callHF 0 drS_mono h__law_draw hr (pda_cons (pde_len (pd_var 1) B.len) pda_nil))) (pda_cons (pde_ix (pd_var 2) (pde_callHF 0 drS_mono h__law_draw hr (pda_cons (pde_len (pd_var 2) B.len) pda_nil))) pda_nil))))))))), ?_⟩
  rintro fs ds W ⟨crew, slots, ins, n, rfl, hcr, hsl, rd, hn0, hn, h⟩
  have hn : n + 3 < 1099511627776 := hn
  have cr := hcr.few
  have sl := hsl.few
  have cr0 : 0 < crew.length := List.length_pos_iff.mpr hcr.ne
  have sl0 : 0 < slots.length := List.length_pos_iff.mpr hsl.ne
  walk_at "st T1h"
  walk_at "ds T1h"
  refine ⟨n, 4, rd, hn0, by omega, rfl, by decide, by decide, fun r fs1 h0 h1 rd1 => ?_⟩
  walk_at "ds T1h"
  by_cases c : r = 0
  · rw [if_pos c]
    refine ⟨n + 1, 8, rd1, by omega, by omega, rfl, by decide, by decide, fun r2 fs2 h2 h3 rd2 => ?_⟩
    walk_at "ds T1h"
    obtain ⟨z, e, m⟩ := at_in (ds := [PyData.int 0, .int 1, .int 2, .int (-1), .int 3, .int (-7), .int 100, .int 1]) h2 h3
    obtain ⟨i, rfl, hi⟩ := leaf_int m
    refine ⟨_, e, fun es e2 => ?_⟩
    cases e2
    exact h (.num i) fs2 _ rd2 (by omega) (by omega) ⟨rfl, hi⟩ rfl rfl
  · rw [if_neg c]
    split
    · split
      · refine ⟨n + 1, _, rd1, by omega, by omega, rfl, by rw [List.length_map]; omega, by rw [List.length_map]; omega, fun r2 fs2 h2 h3 rd2 => ?_⟩
        walk_at "ds T1h"
        obtain ⟨x, e, o⟩ := at_name hsl h2 h3
        refine ⟨_, e, fun es e2 => ?_⟩
        cases e2
        exact h (.nam "my" [x]) fs2 _ rd2 (by omega) (by omega) (wf_my o) rfl rfl
      · refine ⟨n + 1, _, rd1, by omega, by omega, rfl, by rw [List.length_map]; omega, by rw [List.length_map]; omega, fun r2 fs2 h2 h3 rd2 => ?_⟩
        walk_at "ds T1h"
        obtain ⟨x, e, o⟩ := at_name hcr h2 h3
        refine ⟨_, e, n + 1 + 1, _, rd2, by omega, by omega, rfl, by rw [List.length_map]; omega, by rw [List.length_map]; omega, fun r3 fs3 h4 h5 rd3 => ?_⟩
        walk_at "ds T1h"
        obtain ⟨y, e', o'⟩ := at_name hsl h4 h5
        refine ⟨_, e', fun es e2 => ?_⟩
        cases e2
        exact h (.nam "of" [x, y]) fs3 _ rd3 (by omega) (by omega) (wf_of o o') rfl rfl
    · refine ⟨n + 1, _, rd1, by omega, by omega, rfl, by rw [List.length_map]; omega, by rw [List.length_map]; omega, fun r2 fs2 h2 h3 rd2 => ?_⟩
      walk_at "ds T1h"
      obtain ⟨x, e, o⟩ := at_name hcr h2 h3
      refine ⟨_, e, n + 1 + 1, _, rd2, by omega, by omega, rfl, by rw [List.length_map]; omega, by rw [List.length_map]; omega, fun r3 fs3 h4 h5 rd3 => ?_⟩
      walk_at "ds T1h"
      obtain ⟨y, e', o'⟩ := at_name hsl h4 h5
      refine ⟨_, e', fun es e2 => ?_⟩
      cases e2
      exact h (.nam "of" [x, y]) fs3 _ rd3 (by omega) (by omega) (wf_of o o') rfl rfl
theorem cmp_in {z : PyData} (h : z ∈ [PyData.str "=", .str "<"]) : ∃ s, z = .str s ∧ tabOf "condition" s = some [("number" : Str), "number"] := by
  simp only [List.mem_cons, List.not_mem_nil, or_false] at h
  rcases h with h | h <;> exact ⟨_, h, by decide +kernel⟩
theorem log_in {z : PyData} (h : z ∈ [PyData.str "and", .str "or"]) : ∃ s, z = .str s ∧ tabOf "condition" s = some [("condition" : Str), "condition"] := by
  simp only [List.mem_cons, List.not_mem_nil, or_false] at h
  rcases h with h | h <;> exact ⟨_, h, by decide +kernel⟩
theorem pow_step {d : Nat} (h : 1 ≤ d) : ∃ p, 1 ≤ p ∧ 10 * 3 ^ d = 30 * p ∧ 10 * 3 ^ (d - 1) = 10 * p := by
  refine ⟨3 ^ (d - 1), Nat.one_le_pow _ _ (by decide), ?_, rfl⟩
  obtain ⟨e, rfl⟩ : ∃ e, d = e + 1 := ⟨d - 1, by omega⟩
  rw [Nat.pow_succ, Nat.add_sub_cancel]
  omega
theorem not_tab : tabOf "condition" "not" = some [("condition" : Str)] := by decide +kernel
theorem num_ne : ("number" : Str) ≠ "name" := by decide +kernel
theorem con_ne : ("condition" : Str) ≠ "name" := by decide +kernel
theorem ok__law_condition {N : Nat} (B : B0 mg) (F : Fun K "_law_condition" "_law_condition" (top 33) f fd) (h__law_draw : Has P w K mg base "_law_draw" k ["_law_reader_here", "_law_many"] (spF K drS)) (h__law_leaf : Has P w K mg base "_law_leaf" k ["_law_reader_here", "_law_crew", "_law_slots", "_law_inside"] (spF K lfS))
    (h__law_condition : Has P w K mg base "_law_condition" k ["_law_reader_here", "_law_crew", "_law_slots", "_law_inside", "_law_deep"] (spF K (exS "condition" N))) (h__law_number : Has P w K mg base "_law_number" k ["_law_reader_here", "_law_crew", "_law_slots", "_law_inside", "_law_deep"] (spF K (exS "number" N))) :
    FnOk P w K mg base CX0 (k + 1) f fd ["_law_reader_here", "_law_crew", "_law_slots", "_law_inside", "_law_deep"] (spF K (exS "condition" (N + 1))) := by
  refine okF F S__law_condition (fun fs ds Q ⟨_, _, _, _, _, e, _⟩ => by rw [e]; rfl) exS_mono fun cdv A outer s H E R hr => ⟨_, (pdss_cons (pds_set (i := 5) S__law_condition.nd (pde_callHF 0 drS_mono h__law_draw hr (pda_cons pd_int pda_nil))) (pdss_cons (pds_if (pdw_or (pdt_lt (pd_var 4) pd_int) (pdw_or1 (pdt_lt (pd_var 5) pd_int))).t (pdss_cons (pds_set (i := 6) S__law_condition.nd (pde_ix (pde_frz (pdl_lst (pda_cons pd_str (pda_cons pd_str pda_nil)))) (pde_callHF 0 drS_mono h__law_draw hr (pda_cons pd_int pda_nil)))) (pdss_one (pds_ret (pde_tup (pda_cons (pd_var 6) (pda_cons (pde_callHF 0 lfS_mono h__law_leaf hr (pda_cons (pd_var 1) (pda_cons (pd_var 2) (pda_cons (pd_var 3) pda_nil)))) (pda_cons (pde_callHF 0 lfS_mono h__law_leaf hr (pda_cons (pd_var 1) (pda_cons (pd_var 2) (pda_cons (pd_var 3) pda_nil)))) pda_nil))))))) pdss_nil) (pdss_cons (pds_if (pdt_lt (pd_var 5) pd_int) (pdss_cons (pds_set (i := 6) S__law_condition.nd (pde_ix (pde_frz (pdl_lst (pda_cons pd_str (pda_cons pd_str pda_nil)))) (pde_sub (pd_var 5) pd_int))) (pdss_one (pds_ret (pde_tup (pda_cons (pd_var 6) (pda_cons (pde_callHF 0 exS_mono h__law_number hr (pda_cons (pd_var 1) (pda_cons (pd_var 2) (pda_cons (pd_var 3) (pda_cons (pde_sub (pd_var 4) pd_int) pda_nil))))) (pda_cons (pde_callHF 0 lfS_mono h__law_leaf hr (pda_cons (pd_var 1) (pda_cons (pd_var 2) (pda_cons (pd_var 3) pda_nil)))) pda_nil))))))) pdss_nil) (pdss_cons (pds_set (i := 7) S__law_condition.nd (pde_callHF 0 exS_mono h__law_condition hr (pda_cons (pd_var 1) (pda_cons (pd_var 2) (pda_cons (pd_var 3) (pda_cons (pde_sub (pd_var 4) pd_int) pda_nil)))))) (pdss_cons (pds_if (pdt_eq hr.units (pd_var 5) pd_int) (pdss_one (pds_ret (pde_tup (pda_cons pd_str (pda_cons (pd_var 7) pda_nil))))) pdss_nil) (pdss_one (pds_ret (pde_tup (pda_cons (pde_ix (pde_frz (pdl_lst (pda_cons pd_str (pda_cons pd_str pda_nil)))) (pde_sub (pd_var 5) pd_int)) (pda_cons (pd_var 7) (pda_cons (pde_callHF 0 exS_mono h__law_condition hr (pda_cons (pd_var 1) (pda_cons (pd_var 2) (pda_cons (pd_var 3) (pda_cons pd_int pda_nil))))) pda_nil))))))))))), ?_⟩
  rintro fs ds W ⟨crew, slots, ins, d, n, rfl, hd, hcr, hsl, rd, hn0, hn, h⟩
  have hn : n + (10 * 3 ^ d : Nat) < 1099511627776 := hn
  have hb : 10 ≤ 10 * 3 ^ d := by
    have : 1 ≤ 3 ^ d := Nat.one_le_pow _ _ (by decide)
    omega
  generalize hB : 10 * 3 ^ d = Bd at *
  walk_at "st T1h"
  walk_at "ds T1h"
  refine ⟨n, 7, rd, hn0, by omega, rfl, by decide, by decide, fun r fs1 h0 h1 rd1 => ?_⟩
  walk_at "ds T1h"
  by_cases c : (d : Int) < 1
  · rw [if_pos c]
    refine ⟨n + 1, 2, rd1, by omega, by omega, rfl, by decide, by decide, fun r2 fs2 h2 h3 rd2 => ?_⟩
    walk_at "ds T1h"
    obtain ⟨z, e, m⟩ := at_in (ds := [PyData.str "=", .str "<"]) h2 h3
    obtain ⟨s, rfl, hs⟩ := cmp_in m
    refine ⟨_, e, crew, slots, ins, n + 1 + 1, rfl, hcr, hsl, rd2, by omega, by omega, fun t1 fs3 n3 rd3 a3 b3 w3 s3 g3 => ?_⟩
    walk_at "ds T1h"
    refine ⟨crew, slots, ins, n3, rfl, hcr, hsl, rd3, by omega, by omega, fun t2 fs4 n4 rd4 a4 b4 w4 s4 g4 => ?_⟩
    walk_at "ds T1h"
    refine fun es e2 => ?_
    cases e2
    exact h (.two s t1 t2) fs4 n4 rd4 (by omega) (by omega) ⟨_, _, hs, num_ne, num_ne, w3, w4⟩ (by simp only [siz]; omega) (by simp only [hgt]; omega)
  · rw [if_neg c]
    obtain ⟨p, hp, e1, e2⟩ := pow_step (d := d) (by omega)
    have ed : (d : Int) - 1 = ((d - 1 : Nat) : Int) := by omega
    by_cases c2 : r < 2
    · rw [if_pos c2]
      refine ⟨n + 1, 2, rd1, by omega, by omega, rfl, by decide, by decide, fun r2 fs2 h2 h3 rd2 => ?_⟩
      walk_at "ds T1h"
      obtain ⟨z, e, m⟩ := at_in (ds := [PyData.str "=", .str "<"]) h2 h3
      obtain ⟨s, rfl, hs⟩ := cmp_in m
      refine ⟨_, e, crew, slots, ins, n + 1 + 1, rfl, hcr, hsl, rd2, by omega, by omega, fun t1 fs3 n3 rd3 a3 b3 w3 s3 g3 => ?_⟩
      walk_at "ds T1h"
      refine ⟨crew, slots, ins, n3, rfl, hcr, hsl, rd3, by omega, by omega, fun t2 fs4 n4 rd4 a4 b4 w4 s4 g4 => ?_⟩
      walk_at "ds T1h"
      refine fun es e2 => ?_
      cases e2
      exact h (.two s t1 t2) fs4 n4 rd4 (by omega) (by omega) ⟨_, _, hs, num_ne, num_ne, w3, w4⟩ (by simp only [siz]; omega) (by simp only [hgt]; omega)
    · rw [if_neg c2]
      by_cases c4 : r < 4
      · rw [if_pos c4]
        obtain ⟨z, e, m⟩ := at_in (ds := [PyData.str "=", .str "<"]) (r := r - 2) (by omega) (by show r - 2 < ((2 : Nat) : Int); omega)
        obtain ⟨s, rfl, hs⟩ := cmp_in m
        refine ⟨_, e, ?_⟩
        (try walk_at "ds T1h")
        rw [ed]
        refine ⟨crew, slots, ins, d - 1, n + 1, rfl, by omega, hcr, hsl, rd1, by omega, by omega, fun t1 fs3 n3 rd3 a3 b3 w3 s3 g3 => ?_⟩
        walk_at "ds T1h"
        refine ⟨crew, slots, ins, n3, rfl, hcr, hsl, rd3, by omega, by omega, fun t2 fs4 n4 rd4 a4 b4 w4 s4 g4 => ?_⟩
        walk_at "ds T1h"
        refine fun es e2 => ?_
        cases e2
        exact h (.two s t1 t2) fs4 n4 rd4 (by omega) (by omega) ⟨_, _, hs, num_ne, num_ne, w3, w4⟩ (by simp only [siz]; omega) (by simp only [hgt]; omega)
      · rw [if_neg c4]
        rw [ed]
        refine ⟨crew, slots, ins, d - 1, n + 1, rfl, by omega, hcr, hsl, rd1, by omega, by omega, fun t1 fs3 n3 rd3 a3 b3 w3 s3 g3 => ?_⟩
        walk_at "ds T1h"
        by_cases c5 : r = 4
        · rw [if_pos c5]
          refine fun es e2 => ?_
          cases e2
          exact h (.one "not" t1) fs3 n3 rd3 (by omega) (by omega) ⟨_, not_tab, con_ne, w3⟩ (by simp only [siz]; omega) (by simp only [hgt]; omega)
        · rw [if_neg c5]
          obtain ⟨z, e, m⟩ := at_in (ds := [PyData.str "and", .str "or"]) (r := r - 5) (by omega) (by show r - 5 < ((2 : Nat) : Int); omega)
          obtain ⟨s, rfl, hs⟩ := log_in m
          refine ⟨_, e, crew, slots, ins, 0, n3, rfl, by omega, hcr, hsl, rd3, by omega, by show n3 + ((10 : Nat) : Int) < 1099511627776; omega, fun t2 fs4 n4 rd4 a4 b4 w4 s4 g4 => ?_⟩
          have b4 : n4 ≤ n3 + ((10 : Nat) : Int) := b4
          have s4 : siz t2 ≤ 10 := s4
          walk_at "ds T1h"
          refine fun es e2 => ?_
          cases e2
          exact h (.two s t1 t2) fs4 n4 rd4 (by omega) (by omega) ⟨_, _, hs, con_ne, con_ne, w3, w4⟩ (by simp only [siz]; omega) (by simp only [hgt]; omega)
end
end T1

set_option Elab.async false
set_option linter.all false
set_option maxRecDepth 100000
namespace T1
open PySem PySem.Spec PyProof.Rows L2 DL
local macro_rules | `(tactic| walk_at "st T1i") => `(tactic| simp only [startF, startD, List.map_cons, List.map_nil, List.cons_append, List.nil_append, List.length_cons, List.length_nil, List.replicate, Nat.reduceAdd, Nat.reduceSub])
local macro_rules | `(tactic| walk_at "ds T1i") => `(tactic| simp only [sc_a, Bool.not_eq_true, decide_eq_false_iff_not, ↓dSeq, ↓dIfS, ↓dRet, ↓dRetN, ↓dAsg, ↓dAsgO, ↓dSet_eq, ↓sc_n, ↓sc_d, ↓sc_o, ↓sc_y, ↓dDrop, ↓dAsgG, ↓dgTup, ↓dgCons, ↓dgName, ↓dgNil, ↓dNext, ↓dBreak, ↓dCont, ↓dVar, ↓dC, ↓dOp, ↓dTest, ↓dAnd, ↓dOr, ↓dNot, ↓dAndV, ↓dOrV, ↓dNotV, ↓dIf, ↓dIfL, ↓dNil, ↓dCons, ↓dTup, ↓dLst, ↓dFrz, ↓dCall, ↓dCallP_h, ↓dCallF_h, ↓dCallN_h, ↓hid_1, ↓dSeqOf, ↓dRange1, ↓dRange2, ↓dEnum, ↓dZip, ↓dForD, ↓forD, ↓dLcD, ↓dYes, ↓dAppend, ↓dPop, ↓dExtend, ↓dSetItem, ↓dTruO, ↓bInt, ↓bAdd, ↓dNeg, ↓bEq, ↓bNe, ↓bIs, ↓bIsNot, ↓bLt, ↓bLe, ↓bGt, ↓bGe, ↓bOrd, ↓dChain, ↓bIn, ↓bIx, ↓dIxO, ↓dLenO, ↓dNo, ↓dYesO, ↓dSlice, ↓SlD, ↓dIsi, ↓dIsi2, ↓cLen, ↓cAll, ↓cStr, ↓cInt, ↓cTuple, ↓dListOf, ↓dCat, ↓dJoin, ↓dFmt, ↓dJs, ↓dJoined, ↓dGetT, ↓dInT, ↓dRev1, ↓bRep, ↓q1_at, ↓q2_at, ↓q3_at, ↓popex, ↓atx0, ↓atx1, ↓atx2, ↓atx3, ↓reduceIte,
  wipeD, backD, isInt, cast_succ_ne, at0, at1, at2, at3, ex_some, cut1, eqvS, eqvI, shS, shI, flatD, popget, emp_app, down0, down1, down2, down3, List.dropLast_concat, List.all_cons, List.all_nil, Bool.and_true, decide_eq_true_eq, isTy, isNone, startD, startF, List.map_cons, List.map_nil, List.length_cons, List.length_nil, List.nil_append, List.cons_append, List.replicate, List.getElem?_cons_zero, List.getElem?_cons_succ, List.getElem?_nil, List.set_cons_zero, List.set_cons_succ, List.set_nil, Nat.zero_add, Nat.reduceAdd, Nat.reduceSub, Nat.reduceLT, Nat.reduceLeDiff, Int.reduceAdd, Int.reduceSub, Int.toNat_natCast, if_true, if_false, ite_true, ite_false, Bool.false_eq_true, Bool.not_true, Bool.not_false, Bool.true_eq_false, true_and, and_true, Nat.sub_self, Nat.sub_zero, Nat.reduceMul, List.replicate_zero, List.append_nil])
theorem S__law_number : FnScope ["_law_reader_here", "_law_crew", "_law_slots", "_law_inside", "_law_deep", "_law_way", "_law_first", "_law_one", "_law_sign"] ["_law_reader_here", "_law_crew", "_law_slots", "_law_inside", "_law_deep"] (defScope (top 34)) := ⟨rfl, rfl, rfl, by decide +kernel, rfl, by decide +kernel, by decide +kernel⟩
theorem if_tab : tabOf "number" "if" = some [("condition" : Str), "number", "number"] := by decide +kernel
theorem count_tab : tabOf "number" "count" = some [("condition" : Str)] := by decide +kernel
theorem sum_tab : tabOf "number" "sum" = some [("number" : Str), "condition"] := by decide +kernel
theorem bin_in {z : PyData} (h : z ∈ [PyData.str "+", .str "-", .str "*", .str "least", .str "most"]) : ∃ s, z = .str s ∧ tabOf "number" s = some [("number" : Str), "number"] := by
  simp only [List.mem_cons, List.not_mem_nil, or_false] at h
  rcases h with h | h | h | h | h <;> exact ⟨_, h, by decide +kernel⟩
section
variable {P : Program} {w : World} {K : PySem.W.Frag} {mg : Str → Option Value} {base : Heap} {k : Nat} {f : Addr} {fd : FuncData}
theorem ok__law_number {N : Nat} (B : B0 mg) (F : Fun K "_law_number" "_law_number" (top 34) f fd) (h__law_draw : Has P w K mg base "_law_draw" k ["_law_reader_here", "_law_many"] (spF K drS)) (h__law_leaf : Has P w K mg base "_law_leaf" k ["_law_reader_here", "_law_crew", "_law_slots", "_law_inside"] (spF K lfS))
    (h__law_condition : Has P w K mg base "_law_condition" k ["_law_reader_here", "_law_crew", "_law_slots", "_law_inside", "_law_deep"] (spF K (exS "condition" N))) (h__law_number : Has P w K mg base "_law_number" k ["_law_reader_here", "_law_crew", "_law_slots", "_law_inside", "_law_deep"] (spF K (exS "number" N))) :
    FnOk P w K mg base CX0 (k + 1) f fd ["_law_reader_here", "_law_crew", "_law_slots", "_law_inside", "_law_deep"] (spF K (exS "number" (N + 1))) := by
  refine okF F S__law_number (fun fs ds Q ⟨_, _, _, _, _, e, _⟩ => by rw [e]; rfl) exS_mono fun cdv A outer s H E R hr => ⟨_, (pdss_cons (pds_set (i := 5) S__law_number.nd (pde_callHF 0 drS_mono h__law_draw hr (pda_cons pd_int pda_nil))) (pdss_cons (pds_if (pdw_or (pdt_lt (pd_var 4) pd_int) (pdw_or1 (pdt_eq hr.units (pd_var 5) pd_int))).t (pdss_one (pds_ret (pde_callHF 0 lfS_mono h__law_leaf hr (pda_cons (pd_var 1) (pda_cons (pd_var 2) (pda_cons (pd_var 3) pda_nil)))))) pdss_nil) (pdss_cons (pds_if (pdt_eq hr.units (pd_var 5) pd_int) (pdss_cons (pds_set (i := 6) S__law_number.nd (pde_callHF 0 exS_mono h__law_condition hr (pda_cons (pd_var 1) (pda_cons (pd_var 2) (pda_cons (pd_var 3) (pda_cons pd_int pda_nil)))))) (pdss_one (pds_ret (pde_tup (pda_cons pd_str (pda_cons (pd_var 6) (pda_cons (pde_callHF 0 exS_mono h__law_number hr (pda_cons (pd_var 1) (pda_cons (pd_var 2) (pda_cons (pd_var 3) (pda_cons (pde_sub (pd_var 4) pd_int) pda_nil))))) (pda_cons (pde_callHF 0 lfS_mono h__law_leaf hr (pda_cons (pd_var 1) (pda_cons (pd_var 2) (pda_cons (pd_var 3) pda_nil)))) pda_nil)))))))) pdss_nil) (pdss_cons (pds_if (pdt_lt (pd_var 5) pd_int) (pdss_one (pds_ret (pde_tup (pda_cons pd_str (pda_cons (pde_callHF 0 exS_mono h__law_condition hr (pda_cons (pd_var 1) (pda_cons (pd_var 2) (pda_cons pd_bl (pda_cons (pde_sub (pd_var 4) pd_int) pda_nil))))) pda_nil))))) pdss_nil) (pdss_cons (pds_if (pdt_eq hr.units (pd_var 5) pd_int) (pdss_cons (pds_set (i := 7) S__law_number.nd (pde_callHF 0 exS_mono h__law_number hr (pda_cons (pd_var 1) (pda_cons (pd_var 2) (pda_cons pd_bl (pda_cons (pde_sub (pd_var 4) pd_int) pda_nil)))))) (pdss_one (pds_ret (pde_tup (pda_cons pd_str (pda_cons (pd_var 7) (pda_cons (pde_callHF 0 exS_mono h__law_condition hr (pda_cons (pd_var 1) (pda_cons (pd_var 2) (pda_cons pd_bl (pda_cons pd_int pda_nil))))) pda_nil))))))) pdss_nil) (pdss_cons (pds_set (i := 8) S__law_number.nd (pde_ix (pde_frz (pdl_lst (pda_cons pd_str (pda_cons pd_str (pda_cons pd_str (pda_cons pd_str (pda_cons pd_str pda_nil))))))) (pde_sub (pd_var 5) pd_int))) (pdss_cons (pds_set (i := 7) S__law_number.nd (pde_callHF 0 exS_mono h__law_number hr (pda_cons (pd_var 1) (pda_cons (pd_var 2) (pda_cons (pd_var 3) (pda_cons (pde_sub (pd_var 4) pd_int) pda_nil)))))) (pdss_one (pds_ret (pde_tup (pda_cons (pd_var 8) (pda_cons (pd_var 7) (pda_cons (pde_callHF 0 exS_mono h__law_number hr (pda_cons (pd_var 1) (pda_cons (pd_var 2) (pda_cons (pd_var 3) (pda_cons (pde_sub (pd_var 4) pd_int) pda_nil))))) pda_nil))))))))))))), ?_⟩
  rintro fs ds W ⟨crew, slots, ins, d, n, rfl, hd, hcr, hsl, rd, hn0, hn, h⟩
  have hn : n + (10 * 3 ^ d : Nat) < 1099511627776 := hn
  have hb : 10 ≤ 10 * 3 ^ d := by
    have : 1 ≤ 3 ^ d := Nat.one_le_pow _ _ (by decide)
    omega
  generalize hB : 10 * 3 ^ d = Bd at *
  have leaf : ∀ fs1 n1, RD fs1 n1 → n ≤ n1 → n1 ≤ n + 1 → lfS fs1 [.tuple (crew.map .str), .tuple (slots.map .str), .bool ins] (fun z es => ∀ es', some (some (Ent.arg es)) = some (some (Ent.arg es')) → W z es') := fun fs1 n1 rd1 a b =>
    ⟨crew, slots, ins, n1, rfl, hcr, hsl, rd1, by omega, by omega, fun t fs2 n2 rd2 a2 b2 w2 s2 g2 es' e => by
      cases e
      exact h t fs2 n2 rd2 (by omega) (by omega) w2 (by omega) (by omega)⟩
  walk_at "st T1i"
  walk_at "ds T1i"
  refine ⟨n, 10, rd, hn0, by omega, rfl, by decide, by decide, fun r fs1 h0 h1 rd1 => ?_⟩
  walk_at "ds T1i"
  by_cases c : (d : Int) < 1
  · rw [if_pos c]
    exact leaf fs1 _ rd1 (by omega) (by omega)
  · rw [if_neg c]
    obtain ⟨p, hp, e1, e2⟩ := pow_step (d := d) (by omega)
    have ed : (d : Int) - 1 = ((d - 1 : Nat) : Int) := by omega
    by_cases c0 : r = 0
    · rw [if_pos c0]
      exact leaf fs1 _ rd1 (by omega) (by omega)
    · rw [if_neg c0]
      by_cases c1 : r = 1
      · rw [if_pos c1]
        refine ⟨crew, slots, ins, 0, n + 1, rfl, by omega, hcr, hsl, rd1, by omega, by show n + 1 + ((10 : Nat) : Int) < 1099511627776; omega, fun t1 fs2 n2 rd2 a2 b2 w2 s2 g2 => ?_⟩
        have b2 : n2 ≤ n + 1 + ((10 : Nat) : Int) := b2
        have s2 : siz t1 ≤ 10 := s2
        walk_at "ds T1i"
        rw [ed]
        refine ⟨crew, slots, ins, d - 1, n2, rfl, by omega, hcr, hsl, rd2, by omega, by omega, fun t2 fs3 n3 rd3 a3 b3 w3 s3 g3 => ?_⟩
        walk_at "ds T1i"
        refine ⟨crew, slots, ins, n3, rfl, hcr, hsl, rd3, by omega, by omega, fun t3 fs4 n4 rd4 a4 b4 w4 s4 g4 => ?_⟩
        walk_at "ds T1i"
        refine fun es e2 => ?_
        cases e2
        exact h (.tri "if" t1 t2 t3) fs4 n4 rd4 (by omega) (by omega) ⟨_, _, _, if_tab, con_ne, num_ne, num_ne, w2, w3, w4⟩ (by simp only [siz]; omega) (by simp only [hgt]; omega)
      · rw [if_neg c1]
        by_cases c4 : r < 4
        · rw [if_pos c4, ed]
          refine ⟨crew, slots, true, d - 1, n + 1, rfl, by omega, hcr, hsl, rd1, by omega, by omega, fun t1 fs2 n2 rd2 a2 b2 w2 s2 g2 => ?_⟩
          walk_at "ds T1i"
          refine fun es e2 => ?_
          cases e2
          exact h (.one "count" t1) fs2 n2 rd2 (by omega) (by omega) ⟨_, count_tab, con_ne, w2⟩ (by simp only [siz]; omega) (by simp only [hgt]; omega)
        · rw [if_neg c4]
          by_cases c5 : r = 4
          · rw [if_pos c5, ed]
            refine ⟨crew, slots, true, d - 1, n + 1, rfl, by omega, hcr, hsl, rd1, by omega, by omega, fun t1 fs2 n2 rd2 a2 b2 w2 s2 g2 => ?_⟩
            walk_at "ds T1i"
            refine ⟨crew, slots, true, 0, n2, rfl, by omega, hcr, hsl, rd2, by omega, by show n2 + ((10 : Nat) : Int) < 1099511627776; omega, fun t2 fs3 n3 rd3 a3 b3 w3 s3 g3 => ?_⟩
            have b3 : n3 ≤ n2 + ((10 : Nat) : Int) := b3
            have s3 : siz t2 ≤ 10 := s3
            walk_at "ds T1i"
            refine fun es e2 => ?_
            cases e2
            exact h (.two "sum" t1 t2) fs3 n3 rd3 (by omega) (by omega) ⟨_, _, sum_tab, num_ne, con_ne, w2, w3⟩ (by simp only [siz]; omega) (by simp only [hgt]; omega)
          · rw [if_neg c5]
            obtain ⟨z, e, m⟩ := at_in (ds := [PyData.str "+", .str "-", .str "*", .str "least", .str "most"]) (r := r - 5) (by omega) (by show r - 5 < ((5 : Nat) : Int); omega)
            obtain ⟨s, rfl, hs⟩ := bin_in m
            refine ⟨_, e, ?_⟩
            (try walk_at "ds T1i")
            rw [ed]
            refine ⟨crew, slots, ins, d - 1, n + 1, rfl, by omega, hcr, hsl, rd1, by omega, by omega, fun t1 fs2 n2 rd2 a2 b2 w2 s2 g2 => ?_⟩
            walk_at "ds T1i"
            rw [ed]
            refine ⟨crew, slots, ins, d - 1, n2, rfl, by omega, hcr, hsl, rd2, by omega, by omega, fun t2 fs3 n3 rd3 a3 b3 w3 s3 g3 => ?_⟩
            walk_at "ds T1i"
            refine fun es e2 => ?_
            cases e2
            exact h (.two s t1 t2) fs3 n3 rd3 (by omega) (by omega) ⟨_, _, hs, num_ne, num_ne, w2, w3⟩ (by simp only [siz]; omega) (by simp only [hgt]; omega)
theorem all_ex (B : B0 mg) {g : Addr} {gd : FuncData} (F : Fun K "_law_condition" "_law_condition" (top 33) f fd) (bF : Binds K fd ["_law_reader_here", "_law_crew", "_law_slots", "_law_inside", "_law_deep"] []) (mF : mg "_law_condition" = some (.ref f))
    (G : Fun K "_law_number" "_law_number" (top 34) g gd) (bG : Binds K gd ["_law_reader_here", "_law_crew", "_law_slots", "_law_inside", "_law_deep"] []) (mG : mg "_law_number" = some (.ref g))
    (h__law_draw : Has P w K mg base "_law_draw" k ["_law_reader_here", "_law_many"] (spF K drS)) (h__law_leaf : Has P w K mg base "_law_leaf" k ["_law_reader_here", "_law_crew", "_law_slots", "_law_inside"] (spF K lfS)) :
    ∀ N : Nat, Has P w K mg base "_law_condition" (k + N) ["_law_reader_here", "_law_crew", "_law_slots", "_law_inside", "_law_deep"] (spF K (exS "condition" N)) ∧ Has P w K mg base "_law_number" (k + N) ["_law_reader_here", "_law_crew", "_law_slots", "_law_inside", "_law_deep"] (spF K (exS "number" N))
  | 0 => by
    have no : ∀ kd vs H Q E, ¬ spF K (exS kd 0) vs H Q E := fun kd vs H Q E ⟨D, a, xs, ds, vs', ds', _, _, _, _, _, _, _, _, _, d, _, _, h, _⟩ => Nat.not_lt_zero d h
    exact ⟨⟨f, fd, ⟨fun vs H Q E h => absurd h (no _ vs H Q E), fun A outer s H args us vs Q E _ _ _ _ h => absurd h (no _ vs H Q E)⟩, mF, F.kp, bF⟩, ⟨g, gd, ⟨fun vs H Q E h => absurd h (no _ vs H Q E), fun A outer s H args us vs Q E _ _ _ _ h => absurd h (no _ vs H Q E)⟩, mG, G.kp, bG⟩⟩
  | N + 1 => by
    obtain ⟨a, b⟩ := all_ex B F bF mF G bG mG h__law_draw h__law_leaf N
    exact ⟨⟨f, fd, ok__law_condition B F (h__law_draw.mono (Nat.le_add_right _ _)) (h__law_leaf.mono (Nat.le_add_right _ _)) a b, mF, F.kp, bF⟩, ⟨g, gd, ok__law_number B G (h__law_draw.mono (Nat.le_add_right _ _)) (h__law_leaf.mono (Nat.le_add_right _ _)) a b, mG, G.kp, bG⟩⟩
end
end T1

set_option Elab.async false
set_option linter.all false
set_option maxRecDepth 100000
namespace T1
open PySem PySem.Spec PyProof.Rows L2 DL
local macro_rules | `(tactic| walk_at "ds T1x") => `(tactic| simp only [↓dSeq, ↓dIfS, ↓dRet, ↓dRetN, ↓dAsg, ↓dAsgO, ↓dSet_eq, ↓sc_n, ↓sc_d, ↓sc_o, ↓sc_y, ↓dDrop, ↓dAsgG, ↓dPar2, ↓dPar3, ↓dPopAt, ↓dInsert, ↓dRevL, ↓dRevT, ↓bRepS, ↓dgTup, ↓dgCons, ↓dgName, ↓dgNil, ↓dNext, ↓dBreak, ↓dCont, ↓dVar, ↓dC, ↓dOp, ↓dTest, ↓dAnd, ↓dOr, ↓dNot, ↓dAndV, ↓dOrV, ↓dNotV, ↓dIf, ↓dIfL, ↓dNil, ↓dCons, ↓dTup, ↓dLst, ↓dFrz, ↓dCall, ↓dCallP, ↓dCallF, ↓dCallN, ↓dSeqOf, ↓dRange1, ↓dRange2, ↓dEnum, ↓dZip, ↓dForD, ↓forD, ↓dLcD, ↓dYes, ↓dAppend, ↓dPop, ↓dExtend, ↓dSetItem, ↓dTruO, ↓bInt, ↓bAdd, ↓bAddB, ↓dNeg, ↓bEq, ↓bNe, ↓bIs, ↓bIsNot, ↓bLt, ↓bLe, ↓bGt, ↓bGe, ↓bOrd, ↓dChain, ↓bIn, ↓bIx, ↓dIxO, ↓dLenO, ↓dNo, ↓dYesO, ↓dSlice, ↓SlD, ↓dIsi, ↓dIsi2, ↓cLen, ↓cAll, ↓cStr, ↓cInt, ↓cTuple, ↓dListOf, ↓dCat, ↓dJoin, ↓dFmt, ↓dJs, ↓dJoined, ↓dGetT, ↓dInT, ↓dRev1, ↓bRep, ↓q1_at, ↓q2_at, ↓q3_at, ↓popex, ↓atx0, ↓atx1, ↓atx2, ↓atx3, ↓reduceIte,
  wipeD, backD, isInt, cast_succ_ne, at0, at1, at2, at3, ex_some, cut1, eqvS, eqvI, shS, shI, flatD, popget, emp_app, down0, down1, down2, down3, List.dropLast_concat, List.all_cons, List.all_nil, Bool.and_true, decide_eq_true_eq, isTy, isNone, startD, startF, List.map_cons, List.map_nil, List.length_cons, List.length_nil, List.nil_append, List.cons_append, List.replicate, List.getElem?_cons_zero, List.getElem?_cons_succ, List.getElem?_nil, List.set_cons_zero, List.set_cons_succ, List.set_nil, Nat.zero_add, Nat.reduceAdd, Nat.reduceSub, Nat.reduceLT, Nat.reduceLeDiff, Int.reduceAdd, Int.reduceSub, Int.toNat_natCast, if_true, if_false, ite_true, ite_false, Bool.false_eq_true, Bool.not_true, Bool.not_false, Bool.true_eq_false, true_and, and_true, Nat.sub_self, Nat.sub_zero, Nat.reduceMul, List.replicate_zero, List.append_nil])

def pathS : PSpec := fun ds W => ∃ rows ps at' p, ds = [.list rows, .int ((at' : Nat) : Int)] ∧ RowsOk rows ps ∧ ps[at']? = some p ∧ rows.length ≤ 100000 ∧ W (.tuple (p.map .int))
theorem pathS_mono : MonoP pathS := fun ds W W' m ⟨r, ps, a, p, e, h1, h2, h3, h⟩ => ⟨r, ps, a, p, e, h1, h2, h3, m _ h⟩
theorem S__path : FnScope ["rows", "at", "steps", "_", "above", "k"] ["rows", "at"] (defScope (top 17)) := ⟨rfl, rfl, rfl, by decide +kernel, rfl, by decide +kernel, by decide +kernel⟩
def PI (rows : List PyData) (ps : List (List Int)) (p : List Int) (m : Nat) (Γ : DEnv) : Prop := ∃ (q S : List Int) (y3 y4 y5 : Option PyData), Γ = [some (Ent.dat (.list rows)), some (Ent.dat (.int ((m : Nat) : Int))), some (Ent.own (S.map .int)), odat y3, odat y4, odat y5] ∧ ps[m]? = some q ∧ q ++ S.reverse = p ∧ S.length + m ≤ 100000
def optP : Option (List Int) → PyData | none => .none | some p => .tuple (p.map .int)
def kdOk (e : PyData) : Prop := ∃ k, e = .str k ∧ (k = "number" ∨ k = "condition")
def fwD (d e : PyData) : PyData := match e with | .str k => optP (fw d k []) | _ => .none
theorem S_wrong_path : FnScope ["thing", "kind", "house", "rows", "wrong"] ["thing", "kind", "house"] (defScope (top 14)) := ⟨rfl, rfl, rfl, by decide +kernel, rfl, by decide +kernel, by decide +kernel⟩
theorem S_is_number_expression : FnScope ["thing"] ["thing"] (defScope (top 12)) := ⟨rfl, rfl, rfl, by decide +kernel, rfl, by decide +kernel, by decide +kernel⟩
theorem S_is_condition : FnScope ["thing"] ["thing"] (defScope (top 13)) := ⟨rfl, rfl, rfl, by decide +kernel, rfl, by decide +kernel, by decide +kernel⟩
theorem at_nat {α : Type} {xs : List α} {i : Nat} {z : α} (h : xs[i]? = some z) : atI xs ((i : Nat) : Int) = some z := atI_nat h
theorem isNone_opt (o : Option (List Int)) : isNone (optP o) = o.isNone := by cases o <;> rfl
section
variable {P : Program} {w : World} {K : PySem.W.Frag} {mg : Str → Option Value} {base : Heap} {k : Nat} {f : Addr} {fd : FuncData}
theorem ok__path (B : B0 mg) (F : Fun K "_path" "_path" (top 17) f fd) : FnOk P w K mg base CX0 (k + 1) f fd ["rows", "at"] (spP K pathS) := by
  refine okP F S__path (fun ds Q ⟨_, _, _, _, e, _⟩ => by rw [e]; rfl) pathS_mono fun cdv A outer s H E R hr => ⟨_, (pdss_cons (pds_setO (i := 2) S__path.nd (pdl_lst pda_nil)) (pdss_cons (pds_while PassesOwn.never (pdt_gt (pd_var 1) pd_int) (pdss_cons (pds_asg (pde_ix (pd_var 0) (pd_var 1)) (pdg_tup (n := 3) rfl (pdgs_cons (pdg_name 3 S__path.nd) (pdgs_cons (pdg_name 4 S__path.nd) (pdgs_cons (pdg_name 5 S__path.nd) pdgs_nil))))) (pdss_cons (pds_append 2 (pd_var 5)) (pdss_one (pds_set (i := 1) S__path.nd (pd_var 4)))))) (pdss_one (pds_ret (pde_tuple (pde_frz (pdl_rev (pd_var 2))) B.tuple))))), ?_⟩
  rintro ds W ⟨rows, ps, at', p, rfl, hrow, hp, few, h⟩
  walk_at "ds T1x"
  refine ⟨PI rows ps p, ⟨at', p, [], none, none, none, rfl, hp, by simp, ?_⟩, ?_⟩
  · have := getlt hp
    have := hrow.1
    simp only [List.length_nil]
    omega
  rintro m Γ' ⟨q, S, y3, y4, y5, rfl, hq, hS, hb⟩
  obtain ⟨d, a, j, h1, h2, h3⟩ := hrow.2 m q hq
  cases m with
  | zero =>
    have e : (decide ((0 : Int) < ((0 : Nat) : Int))) = false := rfl
    walk_at "ds T1x"
    have hq0 := h2 rfl
    subst hq0
    have e2 : (S.map PyData.int).reverse = p.map PyData.int := by rw [← hS, List.nil_append, List.map_reverse]
    first | (rw [e2]; exact h) | (simp only [e2]; exact h) | skip
  | succ m =>
    obtain ⟨q', a0, a1, a2, a3⟩ := h3 (Nat.succ_pos m)
    walk_at "ds T1x"
    rw [if_pos (show (0 : Int) < ((m + 1 : Nat) : Int) by omega)]
    refine ⟨_, at_nat h1, rfl, rfl, ?_⟩
    refine ⟨by rw [List.length_map]; omega, a.toNat, by omega, q', S ++ [j], some d, some (.int a), some (.int j), ?_, a2, ?_, ?_⟩
    · rw [List.map_append, show ((a.toNat : Nat) : Int) = a by omega]; rfl
    · rw [List.reverse_append, ← hS, a3]; simp
    · rw [List.length_append]; show S.length + 1 + a.toNat ≤ _; omega
theorem ok_wrong_path (B : B0 mg) (F : Fun K "wrong_path" "wrong_path" (top 14) f fd) (h__walk : Has P w K mg base "_walk" k ["thing", "kind", "house"] (spP K walkS)) (h__path : Has P w K mg base "_path" k ["rows", "at"] (spP K pathS)) :
    FnOk P w K mg base CX0 (k + 1) f fd ["thing", "kind", "house"] (spP K (q3 (fun d e g => kdOk e ∧ g = .none ∧ wt d ≤ 100000) fun d e _ => fwD d e)) := by
  refine okP F S_wrong_path q3_len q3_mono fun cdv A outer s H E R hr => ⟨_, (pdss_cons (pds_asg (pde_callH walkS_mono h__walk hr (pda_cons (pd_var 0) (pda_cons (pd_var 1) (pda_cons (pd_var 2) pda_nil)))) (pdg_tup (n := 2) rfl (pdgs_cons (pdg_name 3 S_wrong_path.nd) (pdgs_cons (pdg_name 4 S_wrong_path.nd) pdgs_nil)))) (pdss_one (pds_ret (pde_if (pdt_val (pd_var 4)) (pde_callH pathS_mono h__path hr (pda_cons (pd_var 3) (pda_cons (pde_sub (pde_len (pd_var 3) B.len) pd_int) pda_nil))) pd_non)))), ?_⟩
  rintro ds W ⟨d, e, g, rfl, ⟨⟨k, rfl, hk⟩, rfl, hw⟩, h⟩
  walk_at "ds T1x"
  refine ⟨d, k, rfl, hk, hw, fun rows ps hr hl => ⟨fun z => ?_, fun q z y => ?_⟩⟩
  · have h : W (optP (fw d k [])) := h
    rw [z] at h
    walk_at "ds T1x"
    exact h
  · have h : W (optP (fw d k [])) := h
    rw [z] at h
    walk_at "ds T1x"
    have := getlt y
    have e1 := hr.1
    refine ⟨rows, ps, ps.length - 1, q, ?_, hr, y, hl, h⟩
    rw [e1, show ((ps.length : Nat) : Int) - 1 = ((ps.length - 1 : Nat) : Int) by omega]
theorem ok_is_number_expression (F : Fun K "is_number_expression" "is_number_expression" (top 12) f fd) (g_NUMBER : HasStr mg "NUMBER" "number") (h_wrong_path : Has P w K mg base "wrong_path" k ["thing", "kind", "house"] (spP K (q3 (fun d e g => kdOk e ∧ g = .none ∧ wt d ≤ 100000) fun d e _ => fwD d e))) :
    FnOk P w K mg base CX0 (k + 1) f fd ["thing"] (spP K (q1 (fun d => wt d ≤ 100000) fun d => .bool (fw d "number" []).isNone)) := by
  refine okP F S_is_number_expression q1_len q1_mono fun cdv A outer s H E R hr => ⟨_, (pdss_one (pds_ret (pde_is (pde_callH q3_mono h_wrong_path hr (pda_cons (pd_var 0) (pda_cons (pd_globS g_NUMBER) (pda_cons pd_non pda_nil)))) pd_non))), ?_⟩
  rintro ds W ⟨d, rfl, hw, h⟩
  walk_at "ds T1x"
  refine ⟨⟨⟨_, rfl, .inl rfl⟩, hw⟩, ?_⟩
  show W (.bool (isNone (optP (fw d "number" []))))
  rw [isNone_opt]
  exact h
theorem ok_is_condition (F : Fun K "is_condition" "is_condition" (top 13) f fd) (g_CONDITION : HasStr mg "CONDITION" "condition") (h_wrong_path : Has P w K mg base "wrong_path" k ["thing", "kind", "house"] (spP K (q3 (fun d e g => kdOk e ∧ g = .none ∧ wt d ≤ 100000) fun d e _ => fwD d e))) :
    FnOk P w K mg base CX0 (k + 1) f fd ["thing"] (spP K (q1 (fun d => wt d ≤ 100000) fun d => .bool (fw d "condition" []).isNone)) := by
  refine okP F S_is_condition q1_len q1_mono fun cdv A outer s H E R hr => ⟨_, (pdss_one (pds_ret (pde_is (pde_callH q3_mono h_wrong_path hr (pda_cons (pd_var 0) (pda_cons (pd_globS g_CONDITION) (pda_cons pd_non pda_nil)))) pd_non))), ?_⟩
  rintro ds W ⟨d, rfl, hw, h⟩
  walk_at "ds T1x"
  refine ⟨⟨⟨_, rfl, .inr rfl⟩, hw⟩, ?_⟩
  show W (.bool (isNone (optP (fw d "condition" []))))
  rw [isNone_opt]
  exact h
end
end T1

set_option Elab.async false
set_option linter.all false
set_option maxRecDepth 100000
namespace T1
open PySem PySem.Spec PyProof.Rows L2 DL
local macro_rules | `(tactic| walk_at "ds T1y") => `(tactic| simp only [↓dSeq, ↓dIfS, ↓dRet, ↓dRetN, ↓dAsg, ↓dAsgO, ↓dSet_eq, ↓sc_n, ↓sc_d, ↓sc_o, ↓sc_y, ↓dDrop, ↓dAsgG, ↓dPar2, ↓dPar3, ↓dPopAt, ↓dInsert, ↓dRevL, ↓dRevT, ↓bRepS, ↓dgTup, ↓dgCons, ↓dgName, ↓dgNil, ↓dNext, ↓dBreak, ↓dCont, ↓dVar, ↓dC, ↓dOp, ↓dTest, ↓dAnd, ↓dOr, ↓dNot, ↓dAndV, ↓dOrV, ↓dNotV, ↓dIf, ↓dIfL, ↓dNil, ↓dCons, ↓dTup, ↓dLst, ↓dFrz, ↓dCall, ↓dCallP, ↓dCallF, ↓dCallN, ↓dSeqOf, ↓dRange1, ↓dRange2, ↓dEnum, ↓dZip, ↓dForD, ↓forD, ↓dLcD, ↓dYes, ↓dAppend, ↓dPop, ↓dExtend, ↓dSetItem, ↓dTruO, ↓bInt, ↓bAdd, ↓bAddB, ↓dNeg, ↓bEq, ↓bNe, ↓bIs, ↓bIsNot, ↓bLt, ↓bLe, ↓bGt, ↓bGe, ↓bOrd, ↓dChain, ↓bIn, ↓bIx, ↓dIxO, ↓dLenO, ↓dNo, ↓dYesO, ↓dSlice, ↓SlD, ↓dIsi, ↓dIsi2, ↓cLen, ↓cAll, ↓cStr, ↓cInt, ↓cTuple, ↓dListOf, ↓dCat, ↓dJoin, ↓dFmt, ↓dJs, ↓dJoined, ↓dGetT, ↓dInT, ↓dRev1, ↓bRep, ↓q1_at, ↓q2_at, ↓q3_at, ↓popex, ↓atx0, ↓atx1, ↓atx2, ↓atx3, ↓reduceIte,
  wipeD, backD, isInt, cast_succ_ne, at0, at1, at2, at3, ex_some, cut1, eqvS, eqvI, shS, shI, flatD, popget, emp_app, down0, down1, down2, down3, List.dropLast_concat, List.all_cons, List.all_nil, Bool.and_true, decide_eq_true_eq, isTy, isNone, startD, startF, List.map_cons, List.map_nil, List.length_cons, List.length_nil, List.nil_append, List.cons_append, List.replicate, List.getElem?_cons_zero, List.getElem?_cons_succ, List.getElem?_nil, List.set_cons_zero, List.set_cons_succ, List.set_nil, Nat.zero_add, Nat.reduceAdd, Nat.reduceSub, Nat.reduceLT, Nat.reduceLeDiff, Int.reduceAdd, Int.reduceSub, Int.toNat_natCast, if_true, if_false, ite_true, ite_false, Bool.false_eq_true, Bool.not_true, Bool.not_false, Bool.true_eq_false, true_and, and_true, Nat.sub_self, Nat.sub_zero, Nat.reduceMul, List.replicate_zero, List.append_nil])
abbrev Ok1 (d : PyData) : Prop := Gd (2 ^ 250) 50 90000 d
theorem Ok1.len {d : PyData} {ds : List PyData} (h : Ok1 d) (e : itm d = some ds) : ds.length ≤ 20000 := by
  have a := wtL_len ds
  cases d <;> (try cases e)
  · have : 6 + wtL ds ≤ 90000 := h.wt
    omega
  · have : 6 + wtL ds ≤ 90000 := h.wt
    omega
theorem Ok1.str {x : Str} (h : Ok1 (.str x)) : chOk x ∧ x.length ≤ 10000 := ⟨h.ok, by
  have : 10 * x.length + 6 ≤ 90000 := h.wt
  omega⟩
theorem Ok1.mem {d x : PyData} {ds : List PyData} (h : Ok1 d) (hd : itm d = some ds) (hx : x ∈ ds) : Ok1 x := by
  obtain ⟨a, b, c⟩ := Gd.mem h hd hx
  exact ⟨a, by omega, by omega⟩
theorem okA {ds : List PyData} (h : ∀ d ∈ ds, Ok1 d) : PyData.canLayAll0 ds = true ∧ PyData.depthAll ds ≤ 50 :=
  ⟨okVL_lay (e := 2 ^ 250) (okVL_iff.mpr fun d hd => (h d hd).ok), depth_allL fun d hd => (h d hd).dp⟩
theorem sh_lst {ds : List PyData} (h : ∀ d ∈ ds, Ok1 d) : SeqAt.shaped (.list ds) = true := by
  obtain ⟨a, b⟩ := okA h
  show (PyData.canLayAll0 ds && decide (PyData.depthAll ds + 1 ≤ 64)) = true
  rw [a, decide_eq_true (by omega)]; rfl
theorem sh_tup {d : PyData} (h : Ok1 d) : SeqAt.shaped d = true := h.sh (by decide)
theorem eqv_nil (ds : List PyData) : PyData.eqv (.list ds) (.list []) = ds.isEmpty := by cases ds <;> rfl
theorem eqv_nilT (ds : List PyData) : PyData.eqv (.tuple ds) (.tuple []) = ds.isEmpty := by cases ds <;> rfl
theorem sh_nil : SeqAt.shaped (.list []) = true := rfl
theorem sh_nilT : SeqAt.shaped (.tuple []) = true := rfl
def numD : PyData → Bool | .int i => decide (0 ≤ i) | _ => false
theorem S_is_number : FnScope ["thing"] ["thing"] (defScope (top 2)) := ⟨rfl, rfl, rfl, by decide +kernel, rfl, by decide +kernel, by decide +kernel⟩
theorem S__law_is_integer : FnScope ["_law_thing"] ["_law_thing"] (defScope (top 25)) := ⟨rfl, rfl, rfl, by decide +kernel, rfl, by decide +kernel, by decide +kernel⟩
theorem S__law_is_name : FnScope ["_law_thing", "_law_sign"] ["_law_thing"] (defScope (top 26)) := ⟨rfl, rfl, rfl, by decide +kernel, rfl, by decide +kernel, by decide +kernel⟩
theorem S__law_are_names : FnScope ["_law_thing", "_law_one"] ["_law_thing"] (defScope (top 27)) := ⟨rfl, rfl, rfl, by decide +kernel, rfl, by decide +kernel, by decide +kernel⟩
theorem S__law_rises : FnScope ["_law_thing", "_law_k"] ["_law_thing"] (defScope (top 28)) := ⟨rfl, rfl, rfl, by decide +kernel, rfl, by decide +kernel, by decide +kernel⟩
theorem S_is_names : FnScope ["thing", "name"] ["thing"] (defScope (top 4)) := ⟨rfl, rfl, rfl, by decide +kernel, rfl, by decide +kernel, by decide +kernel⟩
theorem S_is_rising : FnScope ["row", "before", "item"] ["row"] (defScope (top 5)) := ⟨rfl, rfl, rfl, by decide +kernel, rfl, by decide +kernel, by decide +kernel⟩
def allN : PyData → Bool | .tuple ds => ds.all isName | _ => false
def ltS : PyData → PyData → Bool | .str a, .str b => decide (a.cps.toList < b.cps.toList) | _, _ => false
def riseP (ds : List PyData) : Bool := (ds.zip (ds.drop 1)).all fun q => ltS q.1 q.2
def riseD : PyData → Bool | .tuple ds => ds.all isName && riseP ds | _ => false
abbrev nmT : PSpec := q1 (fun d => ∀ x, d = .str x → x.length ≤ 1000000) fun d => .bool (isName d)
theorem cut_1 (ds : List PyData) : cutD ds (some 1) none = ds.drop 1 := by
  cases ds with
  | nil => rfl
  | cons a r => exact cut1 a r
theorem isName_str {d : PyData} (h : isName d = true) : ∃ x, d = .str x := by
  cases d <;> first | exact ⟨_, rfl⟩ | cases h
theorem zips_memD {xs ys : List PyData} {d : PyData} (h : d ∈ zips xs ys) : ∃ a b, a ∈ xs ∧ b ∈ ys ∧ d = .tuple [a, b] := by
  unfold zips at h
  obtain ⟨i, hi⟩ := List.mem_iff_getElem?.mp h
  rw [List.getElem?_zipWith] at hi
  cases hx : xs[i]? with
  | none => rw [hx] at hi; cases hi
  | some a =>
    cases hy : ys[i]? with
    | none => rw [hx, hy] at hi; cases hi
    | some b =>
      rw [hx, hy] at hi
      cases hi
      exact ⟨a, b, List.mem_of_getElem? hx, List.mem_of_getElem? hy, rfl⟩
def fRise : PyData → PyData | .tuple [a, b] => .bool (ltS a b) | _ => .none
theorem zips_rise (xs ys : List PyData) : (zips xs ys).map fRise = ((xs.zip ys).map fun q => ltS q.1 q.2).map .bool := by
  unfold zips
  rw [List.zip, List.map_zipWith, List.map_map, List.map_zipWith]
  rfl
theorem rise_iff (ds : List PyData) : riseP ds = true ↔ ∀ i, i + 1 < ds.length → ltS (ds.getD i .none) (ds.getD (i + 1) .none) = true := by
  unfold riseP
  rw [List.all_eq_true]
  constructor
  · intro h i hi
    have e : (ds.zip (ds.drop 1))[i]? = some (ds.getD i .none, ds.getD (i + 1) .none) := by
      rw [List.getElem?_zip_eq_some]
      refine ⟨?_, ?_⟩
      · rw [List.getD_eq_getElem?_getD, List.getElem?_eq_getElem (by omega)]; rfl
      · rw [List.getElem?_drop, Nat.add_comm 1 i, List.getElem?_eq_getElem (by omega)]
        show some _ = some (ds.getD (i + 1) .none)
        rw [List.getD_eq_getElem?_getD, List.getElem?_eq_getElem (by omega)]; rfl
    exact h _ (List.mem_of_getElem? e)
  · intro h q hq
    obtain ⟨i, hi⟩ := List.mem_iff_getElem?.mp hq
    rw [List.getElem?_zip_eq_some] at hi
    obtain ⟨h1, h2⟩ := hi
    rw [List.getElem?_drop] at h2
    have l := getlt h2
    have := h i (by omega)
    rw [List.getD_eq_getElem?_getD, List.getD_eq_getElem?_getD, h1, Nat.add_comm i 1, h2] at this
    exact this
def pRise (ds : List PyData) : PyData → Bool | .int k => !(ltS (ds.getD (k - 1).toNat .none) (ds.getD k.toNat .none)) | _ => false
theorem rise_filter (ds : List PyData) : ((upto 1 (ds.length - 1)).filter (pRise ds)).isEmpty = riseP ds := by
  rw [Bool.eq_iff_iff, List.isEmpty_iff, List.filter_eq_nil_iff, rise_iff]
  constructor
  · intro h i hi
    have := h (.int (1 + ((i : Nat) : Int))) (List.mem_of_getElem? (upto_get (lo := 1) (i := i) (n := ds.length - 1) (by omega)))
    have this : ¬ (!(ltS (ds.getD (1 + ((i : Nat) : Int) - 1).toNat .none) (ds.getD (1 + ((i : Nat) : Int)).toNat .none))) = true := this
    rw [show (1 + ((i : Nat) : Int) - 1).toNat = i by omega, show (1 + ((i : Nat) : Int)).toNat = i + 1 by omega] at this
    simpa using this
  · intro h d hd
    obtain ⟨i, hi⟩ := List.mem_iff_getElem?.mp hd
    have l := getlt hi
    rw [upto_len] at l
    rw [upto_get l] at hi
    cases hi
    show ¬ (!(ltS (ds.getD (1 + ((i : Nat) : Int) - 1).toNat .none) (ds.getD (1 + ((i : Nat) : Int)).toNat .none))) = true
    rw [show (1 + ((i : Nat) : Int) - 1).toNat = i by omega, show (1 + ((i : Nat) : Int)).toNat = i + 1 by omega, h i (by omega)]
    simp
section
variable {P : Program} {w : World} {K : PySem.W.Frag} {mg : Str → Option Value} {base : Heap} {k : Nat} {f : Addr} {fd : FuncData}
theorem ok_is_number (F : Fun K "is_number" "is_number" (top 2) f fd) (h_is_integer : Has P w K mg base "is_integer" k ["thing"] (spP K (q1 (fun _ => True) fun d => .bool (isInt d)))) : FnOk P w K mg base CX0 (k + 1) f fd ["thing"] (spP K (q1 (fun _ => True) fun d => .bool (numD d))) := by
  refine okP F S_is_number q1_len q1_mono fun cdv A outer s H E R hr => ⟨_, (pdss_one (pds_ret (pde_and (pde_callH q1_mono h_is_integer hr (pda_cons (pd_var 0) pda_nil)) (pde_one (pde_ge (pd_var 0) pd_int))))), ?_⟩
  rintro ds W ⟨d, rfl, _, h⟩
  cases d <;> (walk_at "ds T1y"; exact h)
theorem ok__law_is_integer (B : B0 mg) (F : Fun K "_law_is_integer" "_law_is_integer" (top 25) f fd) : FnOk P w K mg base CX0 (k + 1) f fd ["_law_thing"] (spP K (q1 (fun _ => True) fun d => .bool (isInt d))) := by
  refine okP F S__law_is_integer q1_len q1_mono fun cdv A outer s H E R hr => ⟨_, (pdss_one (pds_ret (pde_and (pde_isi .int rfl (pd_var 0) B.isinstance B.int) (pde_one (pde_not (pde_isi .bool rfl (pd_var 0) B.isinstance B.bool)))))), ?_⟩
  rintro ds W ⟨d, rfl, _, h⟩
  cases d <;> (walk_at "ds T1y"; exact h)
theorem ok_is_rising (B : B0 mg) (F : Fun K "is_rising" "is_rising" (top 5) f fd) : FnOk P w K mg base CX0 (k + 1) f fd ["row"] (spP K (q1 (fun d => ∃ ds, d = .tuple ds ∧ ds.length ≤ 100000 ∧ ∀ z ∈ ds, ∃ x, z = .str x) fun d => match d with | .tuple ds => .bool (riseP ds) | _ => .none)) := by
  refine okP F S_is_rising q1_len q1_mono fun cdv A outer s H E R hr => ⟨_, (pdss_one (pds_ret (pde_all rfl (pde_frz (pdl_lcD (own := [("before", 1), ("item", 2)]) rfl S_is_rising.nd (pdi_zip rfl B.zip (pda_cons (pd_var 0) (pda_cons (pde_slice (pd_var 0) (pdo_some pd_int) pdo_none) pda_nil))) (blkOk (N := ["row", "before", "item"]) (sc := defScope (top 5)) rfl (by decide +kernel) (by decide +kernel) (by decide +kernel) (by decide +kernel)) (fun _ _ _ _ _ => (pdg_tup (n := 2) rfl (pdgs_cons (pdg_name 1 S_is_rising.nd) (pdgs_cons (pdg_name 2 S_is_rising.nd) pdgs_nil)))) (fun _ _ _ _ _ => pdts_nil) (fun _ _ _ _ _ => (pde_lt (pd_var 1) (pd_var 2))))) B.all))), ?_⟩
  rintro ds W ⟨d, rfl, ⟨ds, rfl, few, hs⟩, h⟩
  walk_at "ds T1y"
  simp only [cut_1]
  refine ⟨okW_of, lcD_map fRise _ _ ?_ ?_ ?_⟩
  · rw [zips_len]; simp only [List.length_nil]; omega
  · intro d hd Y Z hY
    obtain ⟨a, b, ha, hb, rfl⟩ := zips_memD hd
    obtain ⟨x, rfl⟩ := hs a ha
    obtain ⟨y, rfl⟩ := hs b (List.mem_of_mem_drop hb)
    walk_at "ds T1y"
    exact hY _ rfl
  · refine ⟨(ds.zip (ds.drop 1)).map fun q => ltS q.1 q.2, ?_, ?_⟩
    · rw [List.nil_append, zips_rise]
    · rw [List.all_map]; exact h
theorem ok_is_names (B : B0 mg) (F : Fun K "is_names" "is_names" (top 4) f fd) (h_is_name : Has P w K mg base "is_name" k ["thing"] (spP K nmT))
    (h_is_rising : Has P w K mg base "is_rising" k ["row"] (spP K (q1 (fun d => ∃ ds, d = .tuple ds ∧ ds.length ≤ 100000 ∧ ∀ z ∈ ds, ∃ x, z = .str x) fun d => match d with | .tuple ds => .bool (riseP ds) | _ => .none))) :
    FnOk P w K mg base CX0 (k + 1) f fd ["thing"] (spP K (q1 Ok1 fun d => .bool (riseD d))) := by
  refine okP F S_is_names q1_len q1_mono fun cdv A outer s H E R hr => ⟨_, (pdss_one (pds_ret (pde_and (pde_isi .tuple rfl (pd_var 0) B.isinstance B.tuple) (pde_and (pde_all rfl (pde_frz (pdl_lcD (own := [("name", 1)]) rfl S_is_names.nd (pdi_list (pd_var 0)) (blkOk (N := ["thing", "name"]) (sc := defScope (top 4)) rfl (by decide +kernel) (by decide +kernel) (by decide +kernel) (by decide +kernel)) (fun _ _ _ _ _ => (pdg_name 1 S_is_names.nd)) (fun _ _ _ _ _ => pdts_nil) (fun _ _ _ _ _ => (pde_callH q1_mono h_is_name hr (pda_cons (pd_var 1) pda_nil))))) B.all) (pde_one (pde_callH q1_mono h_is_rising hr (pda_cons (pd_var 0) pda_nil))))))), ?_⟩
  rintro ds W ⟨d, rfl, hd, h⟩
  cases d with
  | tuple ds =>
    have few := hd.len rfl
    walk_at "ds T1y"
    refine ⟨okW_of, lcD_map (fun d => .bool (isName d)) _ _ ?_ ?_ ?_⟩
    · simp only [List.length_nil]; omega
    · intro d hm Y Z hY
      have hy := hd.mem rfl hm
      walk_at "ds T1y"
      exact ⟨fun x e => by subst e; have := hy.str.2; omega, hY _ rfl⟩
    · refine ⟨ds.map isName, ?_, ?_⟩
      · rw [List.nil_append, List.map_map]; rfl
      · have e : (ds.map isName).all id = ds.all isName := by rw [List.all_map]; rfl
        have h : W (.bool (ds.all isName && riseP ds)) := h
        rw [e]
        cases q : ds.all isName with
        | false => rw [q] at h; exact h
        | true =>
          rw [q] at h
          exact ⟨⟨ds, rfl, by omega, fun z hz => isName_str (List.all_eq_true.mp q z hz)⟩, h⟩
  | _ =>
    walk_at "ds T1y"
    exact h
theorem ok__law_is_name (B : B0 mg) (F : Fun K "_law_is_name" "_law_is_name" (top 26) f fd) : FnOk P w K mg base CX0 (k + 1) f fd ["_law_thing"] (spP K (q1 Ok1 fun d => .bool (isName d))) := by
  refine okP F S__law_is_name q1_len q1_mono fun cdv A outer s H E R hr => ⟨_, (pdss_one (pds_ret (pde_and (pde_isi .str rfl (pd_var 0) B.isinstance B.str) (pde_and (pde_ltlt pd_int (pde_len (pd_var 0) B.len) pd_int) (pde_one (pde_eq hr.units (pde_frz (pdl_lcD (own := [("_law_sign", 1)]) rfl S__law_is_name.nd (pdi_list (pd_var 0)) (blkOk (N := ["_law_thing", "_law_sign"]) (sc := defScope (top 26)) rfl (by decide +kernel) (by decide +kernel) (by decide +kernel) (by decide +kernel)) (fun _ _ _ _ _ => (pdg_name 1 S__law_is_name.nd)) (fun _ _ _ _ _ => (pdts_one (pdt_not (pdt_lele pd_str (pd_var 1) pd_str)))) (fun _ _ _ _ _ => (pd_var 1)))) (pde_frz (pdl_lst pda_nil)))))))), ?_⟩
  rintro ds W ⟨d, rfl, c, h⟩
  cases d <;> try (walk_at "ds T1y"; exact h)
  rename_i x
  obtain ⟨ch, c⟩ := c.str
  walk_at "ds T1y"
  refine ⟨by omega, ?_⟩
  by_cases h1 : (0 : Int) < (x.length : Int)
  · by_cases h8 : (x.length : Int) < 9
    · simp only [decide_eq_true h1, decide_eq_true h8]; try walk_at "ds T1y"
      refine ⟨okW_of, lcD_fm (fun d => match d with | .str y => !(y.cps.toList.all okC) | _ => false) id _ _ ?_ ?_ ?_⟩
      · have e : (DL.signs x).length = x.length := by unfold DL.signs Str.length; simp
        rw [e]; show 0 + _ ≤ _; omega
      · intro d hd Y Z hY hZ
        obtain ⟨n, hn, rfl⟩ := List.mem_map.mp hd
        walk_at "ds T1y"
        have e1 : (!decide (([n] : List Nat) < (Str.ofString "a").cps.toList)) = decide (97 ≤ n) := by
          rw [show (Str.ofString "a").cps.toList = [97] by decide, decide_eq_decide.mpr (chr_lt n 97)]
          by_cases q : 97 ≤ n
          · rw [decide_eq_true q, decide_eq_false (by omega)]; rfl
          · rw [decide_eq_false q, decide_eq_true (by omega)]; rfl
        have e2 : (!decide ((Str.ofString "z").cps.toList < ([n] : List Nat))) = decide (n ≤ 122) := by
          rw [show (Str.ofString "z").cps.toList = [122] by decide, decide_eq_decide.mpr (chr_lt 122 n)]
          by_cases q : n ≤ 122
          · rw [decide_eq_true q, decide_eq_false (by omega)]; rfl
          · rw [decide_eq_false q, decide_eq_true (by omega)]; rfl
        have z : (⟨#[n]⟩ : Str).cps.toList.all okC = okC n := by simp
        simp only [z] at hY hZ
        unfold okC at hY hZ
        simp only [e1, e2]
        by_cases q : 97 ≤ n
        · simp only [decide_eq_true q] at hY hZ ⊢
          by_cases q2 : n ≤ 122
          · simp only [decide_eq_true q2] at hY hZ ⊢
            exact hZ rfl _ rfl
          · simp only [decide_eq_false q2] at hY hZ ⊢
            exact hY rfl _ rfl
        · simp only [decide_eq_false q] at hY hZ ⊢
          exact hY rfl _ rfl
      · have e : ((DL.signs x).filter fun d => match d with | .str y => !(y.cps.toList.all okC) | _ => false).isEmpty = x.cps.toList.all okC := by
          rw [Bool.eq_iff_iff, List.isEmpty_iff, List.filter_eq_nil_iff, List.all_eq_true]
          unfold DL.signs
          constructor
          · intro h n hn
            have := h (.str ⟨#[n]⟩) (List.mem_map.mpr ⟨n, hn, rfl⟩)
            simpa using this
          · intro h d hd
            obtain ⟨n, hn, rfl⟩ := List.mem_map.mp hd
            have := h n hn
            simpa using this
        rw [List.nil_append, List.map_id]
        refine ⟨?_, rfl, ?_⟩
        · refine sh_lst fun d hd => ?_
          obtain ⟨n, hn, rfl⟩ := List.mem_map.mp (List.mem_filter.mp hd).1
          refine ⟨fun c hc => ?_, Nat.zero_le _, ?_⟩
          · have hc : c ∈ [n] := by simpa using hc
            rw [List.mem_singleton.mp hc]; exact ch n hn
          · show 10 * (⟨#[n]⟩ : Str).length + 6 ≤ 90000
            show 10 * 1 + 6 ≤ 90000
            decide
        · rw [eqv_nil, e]
          have e : isName (.str x) = x.cps.toList.all okC := by
            show okName x = _
            unfold okName
            rw [decide_eq_true (show 1 ≤ x.length by omega), decide_eq_true (show x.length ≤ 8 by omega)]
            rfl
          rw [← e]
          exact h
    · simp only [decide_eq_true h1, decide_eq_false h8]; try walk_at "ds T1y"
      have e : isName (.str x) = false := by
        show okName x = _
        unfold okName
        rw [decide_eq_false (show ¬ x.length ≤ 8 by omega), Bool.and_false, Bool.false_and]
      have h : W (.bool (isName (.str x))) := h
      rw [e] at h
      exact h
  · simp only [decide_eq_false h1]; try walk_at "ds T1y"
    have e : isName (.str x) = false := by
      show okName x = _
      unfold okName
      rw [decide_eq_false (show ¬ 1 ≤ x.length by omega), Bool.false_and, Bool.false_and]
    have h : W (.bool (isName (.str x))) := h
    rw [e] at h
    exact h
theorem ok__law_are_names (B : B0 mg) (F : Fun K "_law_are_names" "_law_are_names" (top 27) f fd) (h__law_is_name : Has P w K mg base "_law_is_name" k ["_law_thing"] (spP K (q1 Ok1 fun d => .bool (isName d)))) :
    FnOk P w K mg base CX0 (k + 1) f fd ["_law_thing"] (spP K (q1 Ok1 fun d => .bool (allN d))) := by
  refine okP F S__law_are_names q1_len q1_mono fun cdv A outer s H E R hr => ⟨_, (pdss_one (pds_ret (pde_and (pde_isi .tuple rfl (pd_var 0) B.isinstance B.tuple) (pde_one (pde_eq hr.units (pde_frz (pdl_lcD (own := [("_law_one", 1)]) rfl S__law_are_names.nd (pdi_list (pd_var 0)) (blkOk (N := ["_law_thing", "_law_one"]) (sc := defScope (top 27)) rfl (by decide +kernel) (by decide +kernel) (by decide +kernel) (by decide +kernel)) (fun _ _ _ _ _ => (pdg_name 1 S__law_are_names.nd)) (fun _ _ _ _ _ => (pdts_one (pdt_not (pdt_val (pde_callH q1_mono h__law_is_name hr (pda_cons (pd_var 1) pda_nil)))))) (fun _ _ _ _ _ => (pd_var 1)))) (pde_frz (pdl_lst pda_nil))))))), ?_⟩
  rintro ds W ⟨d, rfl, hd, h⟩
  cases d with
  | tuple ds =>
    have few := hd.len rfl
    walk_at "ds T1y"
    refine ⟨okW_of, lcD_fm (fun d => !isName d) id _ _ ?_ ?_ ?_⟩
    · simp only [List.length_nil]; omega
    · intro d hm Y Z hY hZ
      have hy := hd.mem rfl hm
      walk_at "ds T1y"
      refine ⟨hy, ?_⟩
      cases q : isName d with
      | true => exact hZ (by rw [q]; rfl) _ rfl
      | false => exact hY (by rw [q]; rfl) _ rfl
    · rw [List.nil_append, List.map_id]
      refine ⟨sh_lst fun z hz => hd.mem rfl (List.mem_filter.mp hz).1, rfl, ?_⟩
      rw [eqv_nil]
      have e : (ds.filter fun d => !isName d).isEmpty = ds.all isName := by
        rw [Bool.eq_iff_iff, List.isEmpty_iff, List.filter_eq_nil_iff, List.all_eq_true]
        constructor
        · intro h d hd; simpa using h d hd
        · intro h d hd; simpa using h d hd
      rw [e]
      exact h
  | _ =>
    walk_at "ds T1y"
    exact h
theorem ok__law_rises (B : B0 mg) (F : Fun K "_law_rises" "_law_rises" (top 28) f fd) (h__law_are_names : Has P w K mg base "_law_are_names" k ["_law_thing"] (spP K (q1 Ok1 fun d => .bool (allN d)))) :
    FnOk P w K mg base CX0 (k + 1) f fd ["_law_thing"] (spP K (q1 Ok1 fun d => .bool (riseD d))) := by
  refine okP F S__law_rises q1_len q1_mono fun cdv A outer s H E R hr => ⟨_, (pdss_one (pds_ret (pde_and (pde_callH q1_mono h__law_are_names hr (pda_cons (pd_var 0) pda_nil)) (pde_one (pde_eq hr.units (pde_frz (pdl_lcD (own := [("_law_k", 1)]) rfl S__law_rises.nd (pdi_range2 rfl B.range (pda_cons pd_int (pda_cons (pde_len (pd_var 0) B.len) pda_nil))) (blkOk (N := ["_law_thing", "_law_k"]) (sc := defScope (top 28)) rfl (by decide +kernel) (by decide +kernel) (by decide +kernel) (by decide +kernel)) (fun _ _ _ _ _ => (pdg_name 1 S__law_rises.nd)) (fun _ _ _ _ _ => (pdts_one (pdt_le (pde_ix (pd_var 0) (pd_var 1)) (pde_ix (pd_var 0) (pde_sub (pd_var 1) pd_int))))) (fun _ _ _ _ _ => (pd_var 1)))) (pde_frz (pdl_lst pda_nil))))))), ?_⟩
  rintro ds W ⟨d, rfl, hd, h⟩
  cases d with
  | tuple ds =>
    have few := hd.len rfl
    have eA : allN (.tuple ds) = ds.all isName := rfl
    have h : W (.bool (ds.all isName && riseP ds)) := h
    walk_at "ds T1y"
    refine ⟨hd, ?_⟩
    simp only [eA]
    cases q : ds.all isName with
    | false => rw [q] at h; exact h
    | true =>
      rw [q] at h
      have hs : ∀ i, i < ds.length → ∃ x, ds[i]? = some (.str x) := fun i hi => by
        obtain ⟨x, e⟩ := isName_str (List.all_eq_true.mp q ds[i] (List.getElem_mem hi))
        exact ⟨x, by rw [List.getElem?_eq_getElem hi, e]⟩
      try walk_at "ds T1y"
      refine ⟨⟨by omega, by omega, by omega, by omega⟩, ?_⟩
      refine ⟨okW_of, ?_⟩
      rw [show (((ds.length : Nat) : Int) - 1).toNat = ds.length - 1 by omega]
      have mem : ∀ d ∈ upto 1 (ds.length - 1), ∃ i : Nat, i < ds.length - 1 ∧ d = .int (1 + (i : Int)) := fun d hd => by
        obtain ⟨i, hi⟩ := List.mem_iff_getElem?.mp hd
        have l := getlt hi
        rw [upto_len] at l
        rw [upto_get l] at hi
        cases hi
        exact ⟨i, l, rfl⟩
      refine lcD_fm (pRise ds) id _ _ ?_ ?_ ?_
      · rw [upto_len]; simp only [List.length_nil]; omega
      · intro d hd' Y Z hY hZ
        obtain ⟨i, l, rfl⟩ := mem d hd'
        obtain ⟨x, hx⟩ := hs (i + 1) (by omega)
        obtain ⟨y, hy⟩ := hs i (by omega)
        have e0 : pRise ds (.int (1 + (i : Int))) = !(decide (y.cps.toList < x.cps.toList)) := by
          show (!(ltS (ds.getD (1 + ((i : Nat) : Int) - 1).toNat .none) (ds.getD (1 + ((i : Nat) : Int)).toNat .none))) = _
          rw [show (1 + ((i : Nat) : Int) - 1).toNat = i by omega, show (1 + ((i : Nat) : Int)).toNat = i + 1 by omega, List.getD_eq_getElem?_getD, List.getD_eq_getElem?_getD, hx, hy]
          rfl
        walk_at "ds T1y"
        refine ⟨.str x, by rw [show 1 + (i : Int) = ((i + 1 : Nat) : Int) by omega]; exact at_nat hx, .str y, by rw [show 1 + (i : Int) - 1 = ((i : Nat) : Int) by omega]; exact at_nat hy, ?_⟩
        rw [e0] at hY hZ
        try walk_at "ds T1y"
        by_cases q2 : y.cps.toList < x.cps.toList
        · rw [if_neg (by rw [decide_eq_true q2]; decide)]
          exact hZ (by rw [decide_eq_true q2]; rfl) _ rfl
        · rw [if_pos (by rw [decide_eq_false q2]; rfl)]
          exact hY (by rw [decide_eq_false q2]; rfl) _ rfl
      · rw [List.nil_append, List.map_id]
        refine ⟨sh_lst fun z hz => ?_, rfl, ?_⟩
        · obtain ⟨i, l, rfl⟩ := mem z (List.mem_filter.mp hz).1
          refine ⟨?_, Nat.zero_le _, by show 90 ≤ 90000; decide⟩
          show (1 + (i : Int)).natAbs ≤ 2 ^ 250
          have : (20001 : Nat) ≤ 2 ^ 250 := by decide
          omega
        · rw [eqv_nil, rise_filter]
          exact h
  | _ =>
    walk_at "ds T1y"
    exact ⟨hd, h⟩
end
end T1

set_option Elab.async false
set_option linter.all false
set_option maxRecDepth 100000
namespace T1
open PySem PySem.Spec PyProof.Rows L2 DL
theorem S__law_plan : FnScope ["_law_goal", "_law_word", "_law_found", "_law_sign"] ["_law_goal", "_law_word"] (defScope (top 29)) := ⟨rfl, rfl, rfl, by decide +kernel, rfl, by decide +kernel, by decide +kernel⟩
def lt (s : Str) : Nat := if s = "name" then 115 else if s = "number" then 110 else 99
def letters (ks : List Str) : Str := ⟨(ks.map lt).toArray⟩
def gl (k : Str) : Str := if k = "number" then "n" else "c"
def planF (d e : PyData) : PyData := match d, e with | .str g, .str x => (match tabOf (if g = "n" then "number" else "condition") x with | none => .none | some ks => .str (letters ks)) | _, _ => .none
def planC (d e : PyData) : Prop := (∃ k, d = .str (gl k) ∧ (k = "number" ∨ k = "condition")) ∧ ∃ x, e = .str x
def kvC : List (Key × V) := [(.inr "=", .str "nn"), (.inr "<", .str "nn"), (.inr "and", .str "cc"), (.inr "or", .str "cc"), (.inr "not", .str "c")]
def kv0 : List (Key × V) := [(.inr "of", .str "ss"), (.inr "my", .str "s"), (.inr "if", .str "cnn"), (.inr "count", .str "c"), (.inr "sum", .str "nc")]
def more5 : List (Key × V) := [(.inr "+", .str "nn"), (.inr "-", .str "nn"), (.inr "*", .str "nn"), (.inr "least", .str "nn"), (.inr "most", .str "nn")]
def kvN : List (Key × V) := kv0 ++ more5
theorem kvC_eq : mergeK [] kvC = kvC := by rfl
theorem kv0_eq : mergeK [] kv0 = kv0 := by rfl
def kvAt (i : Nat) : List (Key × V) := mergeK kv0 (more5.take i)
theorem kvN_eq : kvAt 5 = kvN := by rfl
theorem kvAt_len (i : Nat) : (kvAt i).length < sizeLine := by
  have a := length_mergeK (more5.take i) kv0
  have b : (more5.take i).length ≤ 5 := by rw [List.length_take]; show min i 5 ≤ 5; omega
  have c : kv0.length = 5 := rfl
  have : (11 : Nat) ≤ sizeLine := by decide
  show (mergeK kv0 (more5.take i)).length < _
  omega
theorem kvAt_succ {i : Nat} {p : Key × V} (h : more5[i]? = some p) : kvAt (i + 1) = putK (kvAt i) p.1 p.2 := by
  unfold kvAt mergeK
  rw [List.take_succ, h, List.foldl_append]
  rfl
theorem dpS {K : PySem.W.Frag} {D : Hp} {v : V} {d : PyData} {x : Str} (a : v = .str x) (b : d = .str x) : DL.Dp K D v d := by rw [a, b]; exact .str x
theorem planN_ok {K : PySem.W.Frag} {D : Hp} (x : Str) : DL.Dp K D ((valV kvN (Sum.inr x)).getD .non) (planF (.str "n") (.str x)) := by
  by_cases h1 : x = "of"
  · subst h1; exact dpS (x := "ss") (by rfl) (by rfl)
  by_cases h2 : x = "my"
  · subst h2; exact dpS (x := "s") (by rfl) (by rfl)
  by_cases h3 : x = "if"
  · subst h3; exact dpS (x := "cnn") (by rfl) (by rfl)
  by_cases h4 : x = "count"
  · subst h4; exact dpS (x := "c") (by rfl) (by rfl)
  by_cases h5 : x = "sum"
  · subst h5; exact dpS (x := "nc") (by rfl) (by rfl)
  by_cases h6 : x = "+"
  · subst h6; exact dpS (x := "nn") (by rfl) (by rfl)
  by_cases h7 : x = "-"
  · subst h7; exact dpS (x := "nn") (by rfl) (by rfl)
  by_cases h8 : x = "*"
  · subst h8; exact dpS (x := "nn") (by rfl) (by rfl)
  by_cases h9 : x = "least"
  · subst h9; exact dpS (x := "nn") (by rfl) (by rfl)
  by_cases h10 : x = "most"
  · subst h10; exact dpS (x := "nn") (by rfl) (by rfl)
  have e1 : valV kvN (Sum.inr x) = none := by
    simp only [kvN, kv0, more5, List.cons_append, List.nil_append]
    rw [valV_neg (fun z => h1 (Sum.inr.inj z).symm), valV_neg (fun z => h2 (Sum.inr.inj z).symm), valV_neg (fun z => h3 (Sum.inr.inj z).symm), valV_neg (fun z => h4 (Sum.inr.inj z).symm), valV_neg (fun z => h5 (Sum.inr.inj z).symm), valV_neg (fun z => h6 (Sum.inr.inj z).symm), valV_neg (fun z => h7 (Sum.inr.inj z).symm), valV_neg (fun z => h8 (Sum.inr.inj z).symm), valV_neg (fun z => h9 (Sum.inr.inj z).symm), valV_neg (fun z => h10 (Sum.inr.inj z).symm)]
    rfl
  have e2 : planF (.str "n") (.str x) = .none := by
    have e : tabOf "number" x = none := by
      show numTab x = none
      unfold numTab
      rw [if_neg h1, if_neg h2, if_neg h6, if_neg h7, if_neg h8, if_neg h9, if_neg h10, if_neg h3, if_neg h4, if_neg h5]
    show (match tabOf (if ("n" : Str) = "n" then "number" else "condition") x with | none => PyData.none | some ks => .str (letters ks)) = _
    rw [if_pos rfl, e]
  rw [e1, e2]
  exact .non
theorem planC_ok {K : PySem.W.Frag} {D : Hp} (x : Str) : DL.Dp K D ((valV kvC (Sum.inr x)).getD .non) (planF (.str "c") (.str x)) := by
  by_cases h1 : x = "="
  · subst h1; exact dpS (x := "nn") (by rfl) (by rfl)
  by_cases h2 : x = "<"
  · subst h2; exact dpS (x := "nn") (by rfl) (by rfl)
  by_cases h3 : x = "and"
  · subst h3; exact dpS (x := "cc") (by rfl) (by rfl)
  by_cases h4 : x = "or"
  · subst h4; exact dpS (x := "cc") (by rfl) (by rfl)
  by_cases h5 : x = "not"
  · subst h5; exact dpS (x := "c") (by rfl) (by rfl)
  have e1 : valV kvC (Sum.inr x) = none := by
    unfold kvC
    rw [valV_neg (fun z => h1 (Sum.inr.inj z).symm), valV_neg (fun z => h2 (Sum.inr.inj z).symm), valV_neg (fun z => h3 (Sum.inr.inj z).symm), valV_neg (fun z => h4 (Sum.inr.inj z).symm), valV_neg (fun z => h5 (Sum.inr.inj z).symm)]
    rfl
  have e2 : planF (.str "c") (.str x) = .none := by
    have e : tabOf "condition" x = none := by
      show condTab x = none
      unfold condTab
      rw [if_neg h1, if_neg h2, if_neg h3, if_neg h4, if_neg h5]
    show (match tabOf (if ("c" : Str) = "n" then "number" else "condition") x with | none => PyData.none | some ks => .str (letters ks)) = _
    rw [if_neg (by decide +kernel), e]
  rw [e1, e2]
  exact .non
section
variable {P : Program} {w : World} {K : PySem.W.Frag} {mg : Str → Option Value} {base : Heap} {k : Nat} {f : Addr} {fd : FuncData}
theorem ok__law_plan (F : Fun K "_law_plan" "_law_plan" (top 29) f fd) : FnOk P w K mg base CX0 (k + 1) f fd ["_law_goal", "_law_word"] (spP K (q2 planC planF)) := by
  refine F.ok S__law_plan (fun vs H Q E h => ?_) (fun cdv A outer s H vs Q E hr h => ?_)
  · obtain ⟨D, ds, _, hd, q⟩ := h
    rw [dpAll_len hd]
    exact q2_len ds _ q
  · obtain ⟨D, ds, u, hd, d, e, rfl, ⟨⟨kk, rfl, hk⟩, x, rfl⟩, q⟩ := h
    have hu := hr.units
    cases hd with
    | cons h1 h2 =>
      cases h1
      cases h2 with
      | cons h3 h4 =>
        cases h3
        cases h4
        refine ⟨_, pss_cons (ps_if (pt_cmpR op_eq (pe_var (i := 0) rfl (by first | exact Or.inl rfl | exact Or.inr (Or.inl rfl) | exact Or.inr (Or.inr rfl))) pe_str (nomark _)) (pss_one (ps_ret (pe_dget1 ?hu (pe_disp (pps_cons pe_str pe_str (pps_cons pe_str pe_str (pps_cons pe_str pe_str (pps_cons pe_str pe_str (pps_cons pe_str pe_str pps_nil))))) (by rfl) (by rfl) (fun z => by cases z) (by decide)) (pe_var (i := 1) rfl (by first | exact Or.inl rfl | exact Or.inr (Or.inl rfl) | exact Or.inr (Or.inr rfl))) ⟨by rfl, by rfl, by rfl, by rfl⟩))) pss_nil)
          (pss_cons (ps_asg (pe_disp (pps_cons pe_str pe_str (pps_cons pe_str pe_str (pps_cons pe_str pe_str (pps_cons pe_str pe_str (pps_cons pe_str pe_str pps_nil))))) (by rfl) (by rfl) (fun z => by cases z) (by decide)) (pg_name (i := 2) S__law_plan.nd rfl (Or.inl rfl)))
          (pss_cons (ps_for PassesOwn.never rfl (pi_tup (pe_tup (pa_cons pe_str (pa_cons pe_str (pa_cons pe_str (pa_cons pe_str (pa_cons pe_str pa_nil))))))) (pg_name (i := 3) S__law_plan.nd rfl (Or.inl rfl)) (pss_one (ps_asg pe_str (pg_sub (pe_var (i := 2) rfl (by first | exact Or.inl rfl | exact Or.inr (Or.inl rfl) | exact Or.inr (Or.inr rfl))) (pe_var (i := 3) rfl (by first | exact Or.inl rfl | exact Or.inr (Or.inl rfl) | exact Or.inr (Or.inr rfl))) (set_dict ?hu2)))))
          (pss_one (ps_ret (pe_dget1 ?hu3 (pe_var (i := 2) rfl (by first | exact Or.inl rfl | exact Or.inr (Or.inl rfl) | exact Or.inr (Or.inr rfl))) (pe_var (i := 1) rfl (by first | exact Or.inl rfl | exact Or.inr (Or.inl rfl) | exact Or.inr (Or.inr rfl))) ⟨by rfl, by rfl, by rfl, by rfl⟩))))), ?_⟩
        case hu => exact Nat.lt_of_le_of_lt (Nat.add_le_add_left (by decide) _) hu
        case hu2 => exact Nat.lt_of_le_of_lt (Nat.add_le_add_left (by decide) _) hu
        case hu3 => exact Nat.lt_of_le_of_lt (Nat.add_le_add_left (by decide) _) hu
        rcases hk with rfl | rfl
        · have q : ∀ (v : V) (H' D' : Hp), Grow D H D' H' → DL.Dp K D' v (planF (PyData.str "n") (PyData.str x)) → Q v H' := q
          refine ⟨.str "n", rfl, rfl, false, rfl, ?_⟩
          show if (false = true) then _ else _
          rw [if_neg Bool.false_ne_true] -- k01
          intro p hp
          refine ⟨upd_same, kv0, rfl, by decide, ?_⟩
          rw [kv0_eq, upd_upd]
          refine ⟨by decide, fun a ha => ?_⟩
          have hap : a ≠ p := fun e => by subst e; rw [upd_same] at ha; cases ha
          have haH : H a = none := by rw [upd_ne hap] at ha; exact ha
          refine ⟨a, rfl, ⟨_, SqT.of upd_same⟩, ?_⟩
          refine for_tup (xs := more5.map fun z => kV z.1) (fun i σ' H' => ∃ y, σ' = [some (V.str "n"), some (V.str x), some (V.ref p), y] ∧ H' p = some (.dK (kvAt i)) ∧ H' a = some (.tup (more5.map fun z => kV z.1)) ∧ ∀ b o, H b = some o → H' b = some o) ?_ ?_ ?_ ?_
          · refine ⟨none, rfl, ?_, upd_same, fun b o e => ?_⟩
            · rw [upd_ne fun e => hap e.symm]; exact upd_same
            · rw [upd_ne (ne_of_none e haH), upd_ne (ne_of_none e hp)]; exact e
          · rintro i σ' H' hi ⟨y, rfl, h1, h2, h3⟩
            exact SqT.of h2
          · rintro i v σ' H' hv ⟨y, rfl, h1, h2, h3⟩
            rw [List.getElem?_map] at hv
            cases hm : more5[i]? with
            | none => rw [hm] at hv; cases hv
            | some z =>
              rw [hm] at hv
              cases hv
              have hz : z.2 = .str "nn" := by
                have := List.mem_of_getElem? hm
                simp only [more5, List.mem_cons, List.not_mem_nil, or_false] at this
                rcases this with e | e | e | e | e <;> rw [e]
              refine ⟨.ref p, rfl, kV z.1, rfl, p, _, rfl, DPut.k h1 (kvAt_len i), ?_⟩
              refine ⟨_, rfl, ?_, ?_, fun b o e => ?_⟩
              · rw [upd_same, kvAt_succ hm, hz]
              · rw [upd_ne hap]; exact h2
              · rw [upd_ne (ne_of_none e hp)]; exact h3 b o e
          · rintro σ' H' ⟨y, rfl, h1, h2, h3⟩
            refine ⟨.ref p, rfl, p, rfl, .inl ⟨_, .inl h1⟩, .str x, rfl, _, DGet.k (k := Sum.inr x) h1, ?_⟩
            refine q _ _ D ⟨h3, Same.refl _, fun b o e => h3 b o (u b o e), fun b o e => .inl e⟩ ?_
            have e : kvAt (more5.map fun z => kV z.1).length = kvN := kvN_eq
            rw [e]
            exact planN_ok x
        · have q : ∀ (v : V) (H' D' : Hp), Grow D H D' H' → DL.Dp K D' v (planF (PyData.str "c") (PyData.str x)) → Q v H' := q
          refine ⟨.str "c", rfl, rfl, true, rfl, ?_⟩
          show if (true = true) then _ else _
          rw [if_pos rfl]
          intro p hp
          refine ⟨upd_same, kvC, rfl, by decide, ?_⟩
          rw [kvC_eq, upd_upd]
          refine ⟨p, rfl, .inl ⟨_, .inl upd_same⟩, .str x, rfl, _, DGet.k (k := Sum.inr x) upd_same, ?_⟩
          exact q _ _ _ (Grow.tmp u hp) (planC_ok x)
end
end T1

set_option Elab.async false
set_option linter.all false
set_option maxRecDepth 100000
set_option maxHeartbeats 1000000
namespace T1
open PySem PySem.Spec PyProof.Rows L2 DL
local macro_rules | `(tactic| walk_at "ds T1q") => `(tactic| simp only [eqv_nilT, List.isEmpty_cons, List.isEmpty_nil, ↓dSeq, ↓dIfS, ↓dRet, ↓dRetN, ↓dAsg, ↓dAsgO, ↓dSet_eq, ↓sc_n, ↓sc_d, ↓sc_o, ↓sc_y, ↓dDrop, ↓dAsgG, ↓dPar2, ↓dPar3, ↓dPopAt, ↓dInsert, ↓dRevL, ↓dRevT, ↓bRepS, ↓dgTup, ↓dgCons, ↓dgName, ↓dgNil, ↓dNext, ↓dBreak, ↓dCont, ↓dVar, ↓dC, ↓dOp, ↓dTest, ↓dAnd, ↓dOr, ↓dNot, ↓dAndV, ↓dOrV, ↓dNotV, ↓dIf, ↓dIfL, ↓dNil, ↓dCons, ↓dTup, ↓dLst, ↓dFrz, ↓dCall, ↓dCallP, ↓dCallF, ↓dCallN, ↓dSeqOf, ↓dRange1, ↓dRange2, ↓dEnum, ↓dZip, ↓dForD, ↓forD, ↓dLcD, ↓dYes, ↓dAppend, ↓dPop, ↓dExtend, ↓dSetItem, ↓dTruO, ↓bInt, ↓bAdd, ↓bAddB, ↓dNeg, ↓bEq, ↓bNe, ↓bIs, ↓bIsNot, ↓bLt, ↓bLe, ↓bGt, ↓bGe, ↓bOrd, ↓dChain, ↓bIn, ↓bIx, ↓dIxO, ↓dLenO, ↓dNo, ↓dYesO, ↓dSlice, ↓SlD, ↓dIsi, ↓dIsi2, ↓cLen, ↓cAll, ↓cStr, ↓cInt, ↓cTuple, ↓dListOf, ↓dCat, ↓dJoin, ↓dFmt, ↓dJs, ↓dJoined, ↓dGetT, ↓dInT, ↓dRev1, ↓bRep, ↓q1_at, ↓q2_at, ↓q3_at, ↓popex, ↓atx0, ↓atx1, ↓atx2, ↓atx3, ↓reduceIte,
  wipeD, backD, isInt, cast_succ_ne, at0, at1, at2, at3, ex_some, cut1, eqvS, eqvI, shS, shI, flatD, popget, emp_app, down0, down1, down2, down3, List.dropLast_concat, List.all_cons, List.all_nil, Bool.and_true, decide_eq_true_eq, isTy, isNone, startD, startF, List.map_cons, List.map_nil, List.length_cons, List.length_nil, List.nil_append, List.cons_append, List.replicate, List.getElem?_cons_zero, List.getElem?_cons_succ, List.getElem?_nil, List.set_cons_zero, List.set_cons_succ, List.set_nil, Nat.zero_add, Nat.reduceAdd, Nat.reduceSub, Nat.reduceLT, Nat.reduceLeDiff, Int.reduceAdd, Int.reduceSub, Int.toNat_natCast, if_true, if_false, ite_true, ite_false, Bool.false_eq_true, Bool.not_true, Bool.not_false, Bool.true_eq_false, true_and, and_true, Nat.sub_self, Nat.sub_zero, Nat.reduceMul, List.replicate_zero, List.append_nil])
local macro_rules | `(tactic| walk_at "st T1q") => `(tactic| simp only [startF, startD, List.map_cons, List.map_nil, List.cons_append, List.nil_append, List.length_cons, List.length_nil, List.replicate, Nat.reduceAdd, Nat.reduceSub])
theorem gl_k {k : Str} (h : k = "number" ∨ k = "condition") : (if gl k = "n" then ("number" : Str) else "condition") = k := by
  rcases h with rfl | rfl
  · rw [show gl "number" = "n" from rfl, if_pos rfl]
  · rw [show gl "condition" = "c" from rfl, if_neg (by decide +kernel)]
theorem plan_gl {k w : Str} (h : k = "number" ∨ k = "condition") : planF (.str (gl k)) (.str w) = (match tabOf k w with | none => .none | some ks => .str (letters ks)) := by
  show (match tabOf (if gl k = "n" then ("number" : Str) else "condition") w with | none => PyData.none | some ks => .str (letters ks)) = _
  rw [gl_k h]
theorem gl_ok {k : Str} (h : k = "number" ∨ k = "condition") : PyData.strOk (gl k) = true := by rcases h with rfl | rfl <;> decide +kernel
theorem gl_n {k : Str} (h : k = "number" ∨ k = "condition") : decide (gl k = "n") = decide (k = "number") := by rcases h with rfl | rfl <;> decide +kernel
theorem lt_gl {s : Str} (h : s = "number" ∨ s = "condition") : (⟨#[lt s]⟩ : Str) = gl s := by rcases h with rfl | rfl <;> rfl
theorem lt_ok {s : Str} (h : s = "name" ∨ s = "number" ∨ s = "condition") : PyData.strOk (⟨#[lt s]⟩ : Str) = true := by rcases h with rfl | rfl | rfl <;> decide +kernel
theorem lt_s {s : Str} (h : s = "name" ∨ s = "number" ∨ s = "condition") : decide ((⟨#[lt s]⟩ : Str) = "s") = decide (s = "name") := by rcases h with rfl | rfl | rfl <;> decide +kernel
theorem let_len (ks : List Str) : (letters ks).length = ks.length := by unfold letters Str.length; simp
theorem let_get {ks : List Str} {i : Nat} {s : Str} (h : ks[i]? = some s) : (letters ks).cps.toList[i]? = some (lt s) := by unfold letters; simp [h]
def pokS : PSpec := fun ds W => ∃ k d sl b, ds = [.tuple [], sl, .str (gl k), d, .bool b] ∧ (k = "number" ∨ k = "condition") ∧ Ok1 d ∧ W (.bool (kindsIn d k).isSome)
theorem pokS_mono : MonoP pokS := fun ds W W' m ⟨k, d, sl, b, e, hk, hd, h⟩ => ⟨k, d, sl, b, e, hk, hd, m _ h⟩
def wrS (n : Nat) : PSpec := fun ds W => ∃ k d sl b p, ds = [.tuple [], sl, .str (gl k), d, .bool b, .tuple (p.map .int)] ∧ (k = "number" ∨ k = "condition") ∧ Ok1 d ∧ d.depth < n ∧ p.length + d.depth ≤ 100 ∧ W (optP (fw d k p))
theorem wrS_mono {n : Nat} : MonoP (wrS n) := fun ds W W' m ⟨k, d, sl, b, p, e, hk, hd, h1, h2, h⟩ => ⟨k, d, sl, b, p, e, hk, hd, h1, h2, m _ h⟩
theorem S__law_part_ok : FnScope ["_law_crew", "_law_slots", "_law_goal", "_law_item", "_law_inside", "_law_plan_here", "_law_k"] ["_law_crew", "_law_slots", "_law_goal", "_law_item", "_law_inside"] (defScope (top 30)) := ⟨rfl, rfl, rfl, by decide +kernel, rfl, by decide +kernel, by decide +kernel⟩
theorem S__law_wrong : FnScope ["_law_crew", "_law_slots", "_law_goal", "_law_item", "_law_inside", "_law_path_now", "_law_plan_here", "_law_late", "_law_k", "_law_found"] ["_law_crew", "_law_slots", "_law_goal", "_law_item", "_law_inside", "_law_path_now"] (defScope (top 31)) := ⟨rfl, rfl, rfl, by decide +kernel, rfl, by decide +kernel, by decide +kernel⟩
def pPart (r : List PyData) (ks : List Str) : PyData → Bool | .int k => decide (ks.getD k.toNat "" = "name") && !isName (r.getD k.toNat .none) | _ => false
theorem upto_mem {n : Nat} {d : PyData} (h : d ∈ upto 0 n) : ∃ i : Nat, i < n ∧ d = .int (i : Int) := by
  obtain ⟨i, hi⟩ := List.mem_iff_getElem?.mp h
  have l := getlt hi
  rw [upto_len] at l
  rw [upto_get l] at hi
  cases hi
  exact ⟨i, l, by rw [Int.zero_add]⟩
theorem part_filter {r : List PyData} {ks : List Str} (h : r.length = ks.length) : ((upto 0 ks.length).filter (pPart r ks)).isEmpty = (r.zip ks).all goodK := by
  rw [Bool.eq_iff_iff, List.isEmpty_iff, List.filter_eq_nil_iff, List.all_eq_true]
  constructor
  · intro q z hz
    obtain ⟨i, hi⟩ := List.mem_iff_getElem?.mp hz
    rw [List.getElem?_zip_eq_some] at hi
    obtain ⟨h1, h2⟩ := hi
    have l := getlt h2
    have := q (.int (0 + (i : Int))) (List.mem_of_getElem? (upto_get l))
    have this : ¬ (decide (ks.getD (0 + (i : Int)).toNat "" = "name") && !isName (r.getD (0 + (i : Int)).toNat .none)) = true := this
    rw [show (0 + (i : Int)).toNat = i by omega, List.getD_eq_getElem?_getD, List.getD_eq_getElem?_getD, h1, h2] at this
    obtain ⟨x, s⟩ := z
    show (!decide (s = "name") || isName x) = true
    have this : ¬ (decide (s = "name") && !isName x) = true := this
    cases a : decide (s = "name") <;> cases b : isName x <;> simp_all
  · intro q d hd
    obtain ⟨i, l, rfl⟩ := upto_mem hd
    have l2 : i < r.length := by omega
    have := q (r[i], ks[i]) (List.mem_of_getElem? (List.getElem?_zip_eq_some.mpr ⟨List.getElem?_eq_getElem l2, List.getElem?_eq_getElem l⟩))
    have this : (!decide (ks[i] = "name") || isName r[i]) = true := this
    show ¬ (decide (ks.getD (i : Int).toNat "" = "name") && !isName (r.getD (i : Int).toNat .none)) = true
    rw [Int.toNat_natCast, List.getD_eq_getElem?_getD, List.getD_eq_getElem?_getD, List.getElem?_eq_getElem l, List.getElem?_eq_getElem l2]
    show ¬ (decide (ks[i] = "name") && !isName r[i]) = true
    cases a : decide (ks[i] = "name") <;> cases b : isName r[i] <;> simp_all
section
variable {P : Program} {w : World} {K : PySem.W.Frag} {mg : Str → Option Value} {base : Heap} {k m : Nat} {f : Addr} {fd : FuncData}
set_option maxHeartbeats 1000000 in
theorem ok__law_part_ok (B : B0 mg) (F : Fun K "_law_part_ok" "_law_part_ok" (top 30) f fd) (h__law_is_integer : Has P w K mg base "_law_is_integer" k ["_law_thing"] (spP K (q1 (fun _ => True) fun d => .bool (isInt d))))
    (h__law_is_name : Has P w K mg base "_law_is_name" k ["_law_thing"] (spP K (q1 Ok1 fun d => .bool (isName d)))) (h__law_plan : Has P w K mg base "_law_plan" k ["_law_goal", "_law_word"] (spP K (q2 planC planF))) :
    FnOk P w K mg base CX0 (k + 1) f fd ["_law_crew", "_law_slots", "_law_goal", "_law_item", "_law_inside"] (spP K pokS) := by
  refine okP F S__law_part_ok (fun ds Q ⟨_, _, _, _, e, _⟩ => by rw [e]; rfl) pokS_mono fun cdv A outer s H E R hr => ⟨_, (pdss_cons (pds_if (pdt_not (pdt_val (pde_isi .tuple rfl (pd_var 3) B.isinstance B.tuple))) (pdss_one (pds_ret (pde_and (pde_eq hr.units (pd_var 2) pd_str) (pde_one (pde_callH q1_mono h__law_is_integer hr (pda_cons (pd_var 3) pda_nil)))))) pdss_nil) (pdss_cons (pds_if (pdw_or (pdt_eq hr.units (pd_var 3) (pde_tup pda_nil)) (pdw_or1 (pdt_not (pdt_val (pde_isi .str rfl (pde_ix (pd_var 3) pd_int) B.isinstance B.str))))).t (pdss_one (pds_ret pd_bl)) pdss_nil) (pdss_cons (pds_set (i := 5) S__law_part_ok.nd (pde_callH q2_mono h__law_plan hr (pda_cons (pd_var 2) (pda_cons (pde_ix (pd_var 3) pd_int) pda_nil)))) (pdss_cons (pds_if (pdw_or (pdt_is (pd_var 5) pd_non) (pdw_or1 (pdt_ne hr.units (pde_len (pd_var 3) B.len) (pde_add (pde_len (pd_var 5) B.len) pd_int)))).t (pdss_one (pds_ret pd_bl)) pdss_nil) (pdss_cons (pds_if (pdt_ne hr.units (pde_frz (pdl_lcD (own := [("_law_k", 6)]) rfl S__law_part_ok.nd (pdi_range1 rfl B.range (pda_cons (pde_len (pd_var 5) B.len) pda_nil)) (blkOk (N := ["_law_crew", "_law_slots", "_law_goal", "_law_item", "_law_inside", "_law_plan_here", "_law_k"]) (sc := defScope (top 30)) rfl (by decide +kernel) (by decide +kernel) (by decide +kernel) (by decide +kernel)) (fun _ _ _ _ _ => (pdg_name 6 S__law_part_ok.nd)) (fun _ _ _ _ _ => (pdts_one (pdw_and (pdt_eq hr.units (pde_ix (pd_var 5) (pd_var 6)) pd_str) (pdw_and1 (pdt_not (pdt_val (pde_callH q1_mono h__law_is_name hr (pda_cons (pde_ix (pd_var 3) (pde_add (pd_var 6) pd_int)) pda_nil)))))).t)) (fun _ _ _ _ _ => (pd_var 6)))) (pde_frz (pdl_lst pda_nil))) (pdss_one (pds_ret pd_bl)) pdss_nil) (pdss_cons (pds_if (pdw_or (pdt_eq hr.units (pd_var 0) (pde_tup pda_nil)) (pdw_or1 (pdt_notin (pde_ix (pd_var 3) pd_int) (pde_tup (pda_cons pd_str (pda_cons pd_str pda_nil)))))).t (pdss_one (pds_ret pd_bl)) pdss_nil) (pdss_cons (pds_if (pdt_notin (pde_ix (pd_var 3) (pde_neg pd_int)) (pd_var 1)) (pdss_one (pds_ret pd_bl)) pdss_nil) (pdss_one (pds_ret (pde_if (pdt_eq hr.units (pde_ix (pd_var 3) pd_int) pd_str) (pd_var 4) (pde_in (pde_ix (pd_var 3) pd_int) (pd_var 0)))))))))))), ?_⟩
  rintro ds W ⟨kk, d, sl, ins, rfl, hk, hd, h⟩
  cases d with
  | int i =>
    have h : W (.bool (if kk = "number" then some ([] : List Str) else none).isSome) := h
    walk_at "ds T1q"
    refine ⟨gl_ok hk, by decide +kernel, ?_⟩
    rw [gl_n hk]
    by_cases q : kk = "number"
    · rw [if_pos q] at h
      simp only [decide_eq_true q]
      exact h
    · rw [if_neg q] at h
      simp only [decide_eq_false q]
      exact h
  | tuple r0 =>
    have sh := sh_tup hd
    cases r0 with
    | nil =>
      walk_at "ds T1q"
      refine ⟨rfl, rfl, ?_⟩
      exact h
    | cons z r =>
      cases z with
      | str w0 =>
        have hw : Ok1 (.str w0) := hd.mem rfl List.mem_cons_self
        have hG : W (.bool ((tabOf kk w0).bind fun ks => if r.length = ks.length ∧ (r.zip ks).all goodK = true then some ks else none).isSome) := h
        have en : PyData.eqv (.tuple (.str w0 :: r)) (.tuple []) = false := eqv_nilT _
        have few := hd.len rfl
        cases hT : tabOf kk w0 with
        | none =>
          have hF := plan_gl (w := w0) hk
          rw [hT] at hF hG
          (simp (config := {maxSteps := 3000000}) only [hF, eqv_nilT, List.isEmpty_cons, List.isEmpty_nil, ↓dSeq, ↓dIfS, ↓dRet, ↓dRetN, ↓dAsg, ↓dAsgO, ↓dSet_eq, ↓sc_n, ↓sc_d, ↓sc_o, ↓sc_y, ↓dDrop, ↓dAsgG, ↓dPar2, ↓dPar3, ↓dPopAt, ↓dInsert, ↓dRevL, ↓dRevT, ↓bRepS, ↓dgTup, ↓dgCons, ↓dgName, ↓dgNil, ↓dNext, ↓dBreak, ↓dCont, ↓dVar, ↓dC, ↓dOp, ↓dTest, ↓dAnd, ↓dOr, ↓dNot, ↓dAndV, ↓dOrV, ↓dNotV, ↓dIf, ↓dIfL, ↓dNil, ↓dCons, ↓dTup, ↓dLst, ↓dFrz, ↓dCall, ↓dCallP, ↓dCallF, ↓dCallN, ↓dSeqOf, ↓dRange1, ↓dRange2, ↓dEnum, ↓dZip, ↓dForD, ↓forD, ↓dLcD, ↓dYes, ↓dAppend, ↓dPop, ↓dExtend, ↓dSetItem, ↓dTruO, ↓bInt, ↓bAdd, ↓bAddB, ↓dNeg, ↓bEq, ↓bNe, ↓bIs, ↓bIsNot, ↓bLt, ↓bLe, ↓bGt, ↓bGe, ↓bOrd, ↓dChain, ↓bIn, ↓bIx, ↓dIxO, ↓dLenO, ↓dNo, ↓dYesO, ↓dSlice, ↓SlD, ↓dIsi, ↓dIsi2, ↓cLen, ↓cAll, ↓cStr, ↓cInt, ↓cTuple, ↓dListOf, ↓dCat, ↓dJoin, ↓dFmt, ↓dJs, ↓dJoined, ↓dGetT, ↓dInT, ↓dRev1, ↓bRep, ↓q1_at, ↓q2_at, ↓q3_at, ↓popex, ↓atx0, ↓atx1, ↓atx2, ↓atx3, ↓reduceIte,
  wipeD, backD, isInt, cast_succ_ne, at0, at1, at2, at3, ex_some, cut1, eqvS, eqvI, shS, shI, flatD, popget, emp_app, down0, down1, down2, down3, List.dropLast_concat, List.all_cons, List.all_nil, Bool.and_true, decide_eq_true_eq, isTy, isNone, startD, startF, List.map_cons, List.map_nil, List.length_cons, List.length_nil, List.nil_append, List.cons_append, List.replicate, List.getElem?_cons_zero, List.getElem?_cons_succ, List.getElem?_nil, List.set_cons_zero, List.set_cons_succ, List.set_nil, Nat.zero_add, Nat.reduceAdd, Nat.reduceSub, Nat.reduceLT, Nat.reduceLeDiff, Int.reduceAdd, Int.reduceSub, Int.toNat_natCast, if_true, if_false, ite_true, ite_false, Bool.false_eq_true, Bool.not_true, Bool.not_false, Bool.true_eq_false, true_and, and_true, Nat.sub_self, Nat.sub_zero, Nat.reduceMul, List.replicate_zero, List.append_nil])
          refine ⟨sh, rfl, ⟨⟨_, rfl, hk⟩, _, rfl⟩, ?_⟩
          exact hG
        | some ks =>
          have hF := plan_gl (w := w0) hk
          rw [hT] at hF hG
          have k3 := tab_few hT
          (simp (config := {maxSteps := 3000000}) only [hF, eqv_nilT, List.isEmpty_cons, List.isEmpty_nil, ↓dSeq, ↓dIfS, ↓dRet, ↓dRetN, ↓dAsg, ↓dAsgO, ↓dSet_eq, ↓sc_n, ↓sc_d, ↓sc_o, ↓sc_y, ↓dDrop, ↓dAsgG, ↓dPar2, ↓dPar3, ↓dPopAt, ↓dInsert, ↓dRevL, ↓dRevT, ↓bRepS, ↓dgTup, ↓dgCons, ↓dgName, ↓dgNil, ↓dNext, ↓dBreak, ↓dCont, ↓dVar, ↓dC, ↓dOp, ↓dTest, ↓dAnd, ↓dOr, ↓dNot, ↓dAndV, ↓dOrV, ↓dNotV, ↓dIf, ↓dIfL, ↓dNil, ↓dCons, ↓dTup, ↓dLst, ↓dFrz, ↓dCall, ↓dCallP, ↓dCallF, ↓dCallN, ↓dSeqOf, ↓dRange1, ↓dRange2, ↓dEnum, ↓dZip, ↓dForD, ↓forD, ↓dLcD, ↓dYes, ↓dAppend, ↓dPop, ↓dExtend, ↓dSetItem, ↓dTruO, ↓bInt, ↓bAdd, ↓bAddB, ↓dNeg, ↓bEq, ↓bNe, ↓bIs, ↓bIsNot, ↓bLt, ↓bLe, ↓bGt, ↓bGe, ↓bOrd, ↓dChain, ↓bIn, ↓bIx, ↓dIxO, ↓dLenO, ↓dNo, ↓dYesO, ↓dSlice, ↓SlD, ↓dIsi, ↓dIsi2, ↓cLen, ↓cAll, ↓cStr, ↓cInt, ↓cTuple, ↓dListOf, ↓dCat, ↓dJoin, ↓dFmt, ↓dJs, ↓dJoined, ↓dGetT, ↓dInT, ↓dRev1, ↓bRep, ↓q1_at, ↓q2_at, ↓q3_at, ↓popex, ↓atx0, ↓atx1, ↓atx2, ↓atx3, ↓reduceIte,
  wipeD, backD, isInt, cast_succ_ne, at0, at1, at2, at3, ex_some, cut1, eqvS, eqvI, shS, shI, flatD, popget, emp_app, down0, down1, down2, down3, List.dropLast_concat, List.all_cons, List.all_nil, Bool.and_true, decide_eq_true_eq, isTy, isNone, startD, startF, List.map_cons, List.map_nil, List.length_cons, List.length_nil, List.nil_append, List.cons_append, List.replicate, List.getElem?_cons_zero, List.getElem?_cons_succ, List.getElem?_nil, List.set_cons_zero, List.set_cons_succ, List.set_nil, Nat.zero_add, Nat.reduceAdd, Nat.reduceSub, Nat.reduceLT, Nat.reduceLeDiff, Int.reduceAdd, Int.reduceSub, Int.toNat_natCast, if_true, if_false, ite_true, ite_false, Bool.false_eq_true, Bool.not_true, Bool.not_false, Bool.true_eq_false, true_and, and_true, Nat.sub_self, Nat.sub_zero, Nat.reduceMul, List.replicate_zero, List.append_nil])
          refine ⟨sh, rfl, ⟨⟨_, rfl, hk⟩, _, rfl⟩, ?_⟩
          have hG : W (.bool (if r.length = ks.length ∧ (r.zip ks).all goodK = true then some ks else none).isSome) := hG
          refine ⟨by rw [let_len]; omega, ?_⟩
          by_cases hl : r.length = ks.length
          · rw [if_neg (by rw [let_len, decide_eq_true (by omega)]; decide)]
            refine ⟨by rw [let_len]; omega, by rw [let_len]; omega, by rw [let_len]; omega, okW_of, ?_⟩
            rw [let_len]
            refine lcD_fm (pPart r ks) id _ _ ?_ ?_ ?_
            · rw [upto_len]; simp only [List.length_nil]; omega
            · intro d hd' Y Z hY hZ
              obtain ⟨i, li, rfl⟩ := upto_mem hd'
              have li2 : i < r.length := by omega
              have hs : ks[i]? = some ks[i] := List.getElem?_eq_getElem li
              have s3 := (tab_all hT).2 ks[i] (List.getElem_mem li)
              have hx : (PyData.str w0 :: r)[i + 1]? = some r[i] := by rw [List.getElem?_cons_succ]; exact List.getElem?_eq_getElem li2
              have ox : Ok1 r[i] := hd.mem rfl (List.mem_cons_of_mem _ (List.getElem_mem li2))
              have e0 : pPart r ks (.int (i : Int)) = (decide (ks[i] = "name") && !isName r[i]) := by
                show (decide (ks.getD (i : Int).toNat "" = "name") && !isName (r.getD (i : Int).toNat .none)) = _
                rw [Int.toNat_natCast, List.getD_eq_getElem?_getD, List.getD_eq_getElem?_getD, List.getElem?_eq_getElem li, List.getElem?_eq_getElem li2]
                rfl
              rw [e0] at hY hZ
              walk_at "ds T1q"
              refine ⟨by rw [let_len]; omega, lt ks[i], at_nat (let_get hs), lt_ok s3, by decide +kernel, ?_⟩
              have es := lt_s s3
              by_cases q : ks[i] = "name"
              · rw [decide_eq_true q] at es hY hZ
                rw [if_pos (of_decide_eq_true es)]
                refine ⟨r[i], by rw [show (i : Int) + 1 = ((i + 1 : Nat) : Int) by omega]; exact at_nat hx, ox, ?_⟩
                cases q2 : isName r[i] with
                | true => rw [q2] at hZ; exact hZ rfl _ rfl
                | false => rw [q2] at hY; exact hY rfl _ rfl
              · rw [decide_eq_false q] at es hY hZ
                rw [if_neg (of_decide_eq_false es)]
                exact hZ rfl _ rfl
            · rw [List.nil_append, List.map_id]
              have hI : ∀ z ∈ (upto 0 ks.length).filter (pPart r ks), Ok1 z := fun z hz => by
                obtain ⟨i, li, rfl⟩ := upto_mem (List.mem_filter.mp hz).1
                refine ⟨?_, Nat.zero_le _, by show 90 ≤ 90000; decide⟩
                show ((i : Nat) : Int).natAbs ≤ 2 ^ 250
                have : (20001 : Nat) ≤ 2 ^ 250 := by decide
                omega
              refine ⟨sh_lst hI, rfl, ?_⟩
              rw [eqv_nil, part_filter hl]
              by_cases q : (r.zip ks).all goodK = true
              · rw [if_pos ⟨hl, q⟩] at hG
                rw [if_neg (by rw [q]; decide)]
                walk_at "ds T1q"
                exact ⟨rfl, rfl, hG⟩
              · rw [if_neg fun z => q z.2] at hG
                rw [if_pos (by rw [Bool.eq_false_iff.mpr q]; rfl)]
                exact hG
          · rw [if_pos (by rw [let_len, decide_eq_false (by omega)]; rfl)]
            rw [if_neg fun z => hl z.1] at hG
            exact hG
      | _ =>
        walk_at "ds T1q"
        refine ⟨sh, rfl, ?_⟩
        exact h
  | _ =>
    walk_at "ds T1q"
    refine ⟨gl_ok hk, by decide +kernel, ?_⟩
    rcases hk with rfl | rfl <;> exact h
theorem ok__law_wrong {n : Nat} (B : B0 mg) (F : Fun K "_law_wrong" "_law_wrong" (top 31) f fd) (h__law_part_ok : Has P w K mg base "_law_part_ok" n ["_law_crew", "_law_slots", "_law_goal", "_law_item", "_law_inside"] (spP K pokS))
    (h__law_plan : Has P w K mg base "_law_plan" n ["_law_goal", "_law_word"] (spP K (q2 planC planF)))
    (h__law_wrong : Has P w K mg base "_law_wrong" n ["_law_crew", "_law_slots", "_law_goal", "_law_item", "_law_inside", "_law_path_now"] (spP K (wrS m))) :
    FnOk P w K mg base CX0 (n + 1) f fd ["_law_crew", "_law_slots", "_law_goal", "_law_item", "_law_inside", "_law_path_now"] (spP K (wrS (m + 1))) := by
  refine okP F S__law_wrong (fun ds Q ⟨_, _, _, _, _, e, _⟩ => by rw [e]; rfl) wrS_mono fun cdv A outer s H E R hr => ⟨_, (pdss_cons (pds_if (pdt_not (pdt_val (pde_callH pokS_mono h__law_part_ok hr (pda_cons (pd_var 0) (pda_cons (pd_var 1) (pda_cons (pd_var 2) (pda_cons (pd_var 3) (pda_cons (pd_var 4) pda_nil)))))))) (pdss_one (pds_ret (pd_var 5))) pdss_nil) (pdss_cons (pds_if (pdt_not (pdt_val (pde_isi .tuple rfl (pd_var 3) B.isinstance B.tuple))) (pdss_one (pds_ret pd_non)) pdss_nil) (pdss_cons (pds_par2 (i := 6) (j := 7) rfl S__law_wrong.nd (pda_cons (pde_callH q2_mono h__law_plan hr (pda_cons (pd_var 2) (pda_cons (pde_ix (pd_var 3) pd_int) pda_nil))) (pda_cons (pde_or (pd_var 4) (pde_one (pde_in (pde_ix (pd_var 3) pd_int) (pde_tup (pda_cons pd_str (pda_cons pd_str pda_nil)))))) pda_nil))) (pdss_cons (pds_forD PassesOwn.never rfl (pdi_range1 rfl B.range (pda_cons (pde_len (pd_var 6) B.len) pda_nil)) (pdg_name 8 S__law_wrong.nd) (pdss_one (pds_if (pdt_ne hr.units (pde_ix (pd_var 6) (pd_var 8)) pd_str) (pdss_cons (pds_set (i := 9) S__law_wrong.nd (pde_callH wrS_mono h__law_wrong hr (pda_cons (pd_var 0) (pda_cons (pd_var 1) (pda_cons (pde_ix (pd_var 6) (pd_var 8)) (pda_cons (pde_ix (pd_var 3) (pde_add (pd_var 8) pd_int)) (pda_cons (pd_var 7) (pda_cons (pde_add (pd_var 5) (pde_tup (pda_cons (pde_add (pd_var 8) pd_int) pda_nil))) pda_nil)))))))) (pdss_one (pds_if (pdt_isnot (pd_var 9) pd_non) (pdss_one (pds_ret (pd_var 9))) pdss_nil))) pdss_nil))) (pdss_one (pds_ret pd_non)))))), ?_⟩
  rintro ds W ⟨kk, d, sl, ins, p, rfl, hk, hd, h1, h2, h⟩
  cases hK : kindsIn d kk with
  | none =>
    rw [fw_none hK] at h
    have h : W (.tuple (p.map .int)) := h
    (simp (config := {maxSteps := 3000000}) only [Option.isSome_some, Option.isSome_none, ↓dSeq, ↓dIfS, ↓dRet, ↓dRetN, ↓dAsg, ↓dAsgO, ↓dSet_eq, ↓sc_n, ↓sc_d, ↓sc_o, ↓sc_y, ↓dDrop, ↓dAsgG, ↓dPar2, ↓dPar3, ↓dPopAt, ↓dInsert, ↓dRevL, ↓dRevT, ↓bRepS, ↓dgTup, ↓dgCons, ↓dgName, ↓dgNil, ↓dNext, ↓dBreak, ↓dCont, ↓dVar, ↓dC, ↓dOp, ↓dTest, ↓dAnd, ↓dOr, ↓dNot, ↓dAndV, ↓dOrV, ↓dNotV, ↓dIf, ↓dIfL, ↓dNil, ↓dCons, ↓dTup, ↓dLst, ↓dFrz, ↓dCall, ↓dCallP_h, ↓dCallF_h, ↓dCallN_h, ↓hid_1, ↓dSeqOf, ↓dRange1, ↓dRange2, ↓dEnum, ↓dZip, ↓dForD, ↓forD, ↓dLcD, ↓dYes, ↓dAppend, ↓dPop, ↓dExtend, ↓dSetItem, ↓dTruO, ↓bInt, ↓bAdd, ↓bAddB, ↓dNeg, ↓bEq, ↓bNe, ↓bIs, ↓bIsNot, ↓bLt, ↓bLe, ↓bGt, ↓bGe, ↓bOrd, ↓dChain, ↓bIn, ↓bIx, ↓dIxO, ↓dLenO, ↓dNo, ↓dYesO, ↓dSlice, ↓SlD, ↓dIsi, ↓dIsi2, ↓cLen, ↓cAll, ↓cStr, ↓cInt, ↓cTuple, ↓dListOf, ↓dCat, ↓dJoin, ↓dFmt, ↓dJs, ↓dJoined, ↓dGetT, ↓dInT, ↓dRev1, ↓bRep, ↓q1_at, ↓q2_at, ↓q3_at, ↓popex, ↓atx0, ↓atx1, ↓atx2, ↓atx3, ↓reduceIte,
  wipeD, backD, isInt, cast_succ_ne, at0, at1, at2, at3, ex_some, cut1, eqvS, eqvI, shS, shI, flatD, popget, emp_app, down0, down1, down2, down3, List.dropLast_concat, List.all_cons, List.all_nil, Bool.and_true, decide_eq_true_eq, isTy, isNone, startD, startF, List.map_cons, List.map_nil, List.length_cons, List.length_nil, List.nil_append, List.cons_append, List.replicate, List.getElem?_cons_zero, List.getElem?_cons_succ, List.getElem?_nil, List.set_cons_zero, List.set_cons_succ, List.set_nil, Nat.zero_add, Nat.reduceAdd, Nat.reduceSub, Nat.reduceLT, Nat.reduceLeDiff, Int.reduceAdd, Int.reduceSub, Int.toNat_natCast, if_true, if_false, ite_true, ite_false, Bool.false_eq_true, Bool.not_true, Bool.not_false, Bool.true_eq_false, true_and, and_true, Nat.sub_self, Nat.sub_zero, Nat.reduceMul, List.replicate_zero, List.append_nil])
    refine ⟨kk, d, sl, ins, rfl, hk, hd, ?_⟩
    rw [hK]
    try (simp (config := {maxSteps := 3000000}) only [Option.isSome_some, Option.isSome_none, ↓dSeq, ↓dIfS, ↓dRet, ↓dRetN, ↓dAsg, ↓dAsgO, ↓dSet_eq, ↓sc_n, ↓sc_d, ↓sc_o, ↓sc_y, ↓dDrop, ↓dAsgG, ↓dPar2, ↓dPar3, ↓dPopAt, ↓dInsert, ↓dRevL, ↓dRevT, ↓bRepS, ↓dgTup, ↓dgCons, ↓dgName, ↓dgNil, ↓dNext, ↓dBreak, ↓dCont, ↓dVar, ↓dC, ↓dOp, ↓dTest, ↓dAnd, ↓dOr, ↓dNot, ↓dAndV, ↓dOrV, ↓dNotV, ↓dIf, ↓dIfL, ↓dNil, ↓dCons, ↓dTup, ↓dLst, ↓dFrz, ↓dCall, ↓dCallP_h, ↓dCallF_h, ↓dCallN_h, ↓hid_1, ↓dSeqOf, ↓dRange1, ↓dRange2, ↓dEnum, ↓dZip, ↓dForD, ↓forD, ↓dLcD, ↓dYes, ↓dAppend, ↓dPop, ↓dExtend, ↓dSetItem, ↓dTruO, ↓bInt, ↓bAdd, ↓bAddB, ↓dNeg, ↓bEq, ↓bNe, ↓bIs, ↓bIsNot, ↓bLt, ↓bLe, ↓bGt, ↓bGe, ↓bOrd, ↓dChain, ↓bIn, ↓bIx, ↓dIxO, ↓dLenO, ↓dNo, ↓dYesO, ↓dSlice, ↓SlD, ↓dIsi, ↓dIsi2, ↓cLen, ↓cAll, ↓cStr, ↓cInt, ↓cTuple, ↓dListOf, ↓dCat, ↓dJoin, ↓dFmt, ↓dJs, ↓dJoined, ↓dGetT, ↓dInT, ↓dRev1, ↓bRep, ↓q1_at, ↓q2_at, ↓q3_at, ↓popex, ↓atx0, ↓atx1, ↓atx2, ↓atx3, ↓reduceIte,
  wipeD, backD, isInt, cast_succ_ne, at0, at1, at2, at3, ex_some, cut1, eqvS, eqvI, shS, shI, flatD, popget, emp_app, down0, down1, down2, down3, List.dropLast_concat, List.all_cons, List.all_nil, Bool.and_true, decide_eq_true_eq, isTy, isNone, startD, startF, List.map_cons, List.map_nil, List.length_cons, List.length_nil, List.nil_append, List.cons_append, List.replicate, List.getElem?_cons_zero, List.getElem?_cons_succ, List.getElem?_nil, List.set_cons_zero, List.set_cons_succ, List.set_nil, Nat.zero_add, Nat.reduceAdd, Nat.reduceSub, Nat.reduceLT, Nat.reduceLeDiff, Int.reduceAdd, Int.reduceSub, Int.toNat_natCast, if_true, if_false, ite_true, ite_false, Bool.false_eq_true, Bool.not_true, Bool.not_false, Bool.true_eq_false, true_and, and_true, Nat.sub_self, Nat.sub_zero, Nat.reduceMul, List.replicate_zero, List.append_nil])
    exact h
  | some ks =>
    rcases ki_some hK with ⟨i, rfl, rfl⟩ | ⟨w1, r, rfl, hT, hl⟩
    · rw [fw_int hK] at h
      (simp (config := {maxSteps := 3000000}) only [Option.isSome_some, Option.isSome_none, ↓dSeq, ↓dIfS, ↓dRet, ↓dRetN, ↓dAsg, ↓dAsgO, ↓dSet_eq, ↓sc_n, ↓sc_d, ↓sc_o, ↓sc_y, ↓dDrop, ↓dAsgG, ↓dPar2, ↓dPar3, ↓dPopAt, ↓dInsert, ↓dRevL, ↓dRevT, ↓bRepS, ↓dgTup, ↓dgCons, ↓dgName, ↓dgNil, ↓dNext, ↓dBreak, ↓dCont, ↓dVar, ↓dC, ↓dOp, ↓dTest, ↓dAnd, ↓dOr, ↓dNot, ↓dAndV, ↓dOrV, ↓dNotV, ↓dIf, ↓dIfL, ↓dNil, ↓dCons, ↓dTup, ↓dLst, ↓dFrz, ↓dCall, ↓dCallP_h, ↓dCallF_h, ↓dCallN_h, ↓hid_1, ↓dSeqOf, ↓dRange1, ↓dRange2, ↓dEnum, ↓dZip, ↓dForD, ↓forD, ↓dLcD, ↓dYes, ↓dAppend, ↓dPop, ↓dExtend, ↓dSetItem, ↓dTruO, ↓bInt, ↓bAdd, ↓bAddB, ↓dNeg, ↓bEq, ↓bNe, ↓bIs, ↓bIsNot, ↓bLt, ↓bLe, ↓bGt, ↓bGe, ↓bOrd, ↓dChain, ↓bIn, ↓bIx, ↓dIxO, ↓dLenO, ↓dNo, ↓dYesO, ↓dSlice, ↓SlD, ↓dIsi, ↓dIsi2, ↓cLen, ↓cAll, ↓cStr, ↓cInt, ↓cTuple, ↓dListOf, ↓dCat, ↓dJoin, ↓dFmt, ↓dJs, ↓dJoined, ↓dGetT, ↓dInT, ↓dRev1, ↓bRep, ↓q1_at, ↓q2_at, ↓q3_at, ↓popex, ↓atx0, ↓atx1, ↓atx2, ↓atx3, ↓reduceIte,
  wipeD, backD, isInt, cast_succ_ne, at0, at1, at2, at3, ex_some, cut1, eqvS, eqvI, shS, shI, flatD, popget, emp_app, down0, down1, down2, down3, List.dropLast_concat, List.all_cons, List.all_nil, Bool.and_true, decide_eq_true_eq, isTy, isNone, startD, startF, List.map_cons, List.map_nil, List.length_cons, List.length_nil, List.nil_append, List.cons_append, List.replicate, List.getElem?_cons_zero, List.getElem?_cons_succ, List.getElem?_nil, List.set_cons_zero, List.set_cons_succ, List.set_nil, Nat.zero_add, Nat.reduceAdd, Nat.reduceSub, Nat.reduceLT, Nat.reduceLeDiff, Int.reduceAdd, Int.reduceSub, Int.toNat_natCast, if_true, if_false, ite_true, ite_false, Bool.false_eq_true, Bool.not_true, Bool.not_false, Bool.true_eq_false, true_and, and_true, Nat.sub_self, Nat.sub_zero, Nat.reduceMul, List.replicate_zero, List.append_nil])
      refine ⟨kk, .int i, sl, ins, rfl, hk, hd, ?_⟩
      rw [hK]
      try (simp (config := {maxSteps := 3000000}) only [Option.isSome_some, Option.isSome_none, ↓dSeq, ↓dIfS, ↓dRet, ↓dRetN, ↓dAsg, ↓dAsgO, ↓dSet_eq, ↓sc_n, ↓sc_d, ↓sc_o, ↓sc_y, ↓dDrop, ↓dAsgG, ↓dPar2, ↓dPar3, ↓dPopAt, ↓dInsert, ↓dRevL, ↓dRevT, ↓bRepS, ↓dgTup, ↓dgCons, ↓dgName, ↓dgNil, ↓dNext, ↓dBreak, ↓dCont, ↓dVar, ↓dC, ↓dOp, ↓dTest, ↓dAnd, ↓dOr, ↓dNot, ↓dAndV, ↓dOrV, ↓dNotV, ↓dIf, ↓dIfL, ↓dNil, ↓dCons, ↓dTup, ↓dLst, ↓dFrz, ↓dCall, ↓dCallP_h, ↓dCallF_h, ↓dCallN_h, ↓hid_1, ↓dSeqOf, ↓dRange1, ↓dRange2, ↓dEnum, ↓dZip, ↓dForD, ↓forD, ↓dLcD, ↓dYes, ↓dAppend, ↓dPop, ↓dExtend, ↓dSetItem, ↓dTruO, ↓bInt, ↓bAdd, ↓bAddB, ↓dNeg, ↓bEq, ↓bNe, ↓bIs, ↓bIsNot, ↓bLt, ↓bLe, ↓bGt, ↓bGe, ↓bOrd, ↓dChain, ↓bIn, ↓bIx, ↓dIxO, ↓dLenO, ↓dNo, ↓dYesO, ↓dSlice, ↓SlD, ↓dIsi, ↓dIsi2, ↓cLen, ↓cAll, ↓cStr, ↓cInt, ↓cTuple, ↓dListOf, ↓dCat, ↓dJoin, ↓dFmt, ↓dJs, ↓dJoined, ↓dGetT, ↓dInT, ↓dRev1, ↓bRep, ↓q1_at, ↓q2_at, ↓q3_at, ↓popex, ↓atx0, ↓atx1, ↓atx2, ↓atx3, ↓reduceIte,
  wipeD, backD, isInt, cast_succ_ne, at0, at1, at2, at3, ex_some, cut1, eqvS, eqvI, shS, shI, flatD, popget, emp_app, down0, down1, down2, down3, List.dropLast_concat, List.all_cons, List.all_nil, Bool.and_true, decide_eq_true_eq, isTy, isNone, startD, startF, List.map_cons, List.map_nil, List.length_cons, List.length_nil, List.nil_append, List.cons_append, List.replicate, List.getElem?_cons_zero, List.getElem?_cons_succ, List.getElem?_nil, List.set_cons_zero, List.set_cons_succ, List.set_nil, Nat.zero_add, Nat.reduceAdd, Nat.reduceSub, Nat.reduceLT, Nat.reduceLeDiff, Int.reduceAdd, Int.reduceSub, Int.toNat_natCast, if_true, if_false, ite_true, ite_false, Bool.false_eq_true, Bool.not_true, Bool.not_false, Bool.true_eq_false, true_and, and_true, Nat.sub_self, Nat.sub_zero, Nat.reduceMul, List.replicate_zero, List.append_nil])
      exact h
    · rw [fw_tup hK] at h
      have hF := plan_gl (w := w1) hk
      rw [hT] at hF
      have k3 := tab_few hT
      (simp (config := {maxSteps := 3000000}) only [Option.isSome_some, Option.isSome_none, ↓dSeq, ↓dIfS, ↓dRet, ↓dRetN, ↓dAsg, ↓dAsgO, ↓dSet_eq, ↓sc_n, ↓sc_d, ↓sc_o, ↓sc_y, ↓dDrop, ↓dAsgG, ↓dPar2, ↓dPar3, ↓dPopAt, ↓dInsert, ↓dRevL, ↓dRevT, ↓bRepS, ↓dgTup, ↓dgCons, ↓dgName, ↓dgNil, ↓dNext, ↓dBreak, ↓dCont, ↓dVar, ↓dC, ↓dOp, ↓dTest, ↓dAnd, ↓dOr, ↓dNot, ↓dAndV, ↓dOrV, ↓dNotV, ↓dIf, ↓dIfL, ↓dNil, ↓dCons, ↓dTup, ↓dLst, ↓dFrz, ↓dCall, ↓dCallP_h, ↓dCallF_h, ↓dCallN_h, ↓hid_1, ↓dSeqOf, ↓dRange1, ↓dRange2, ↓dEnum, ↓dZip, ↓dForD, ↓forD, ↓dLcD, ↓dYes, ↓dAppend, ↓dPop, ↓dExtend, ↓dSetItem, ↓dTruO, ↓bInt, ↓bAdd, ↓bAddB, ↓dNeg, ↓bEq, ↓bNe, ↓bIs, ↓bIsNot, ↓bLt, ↓bLe, ↓bGt, ↓bGe, ↓bOrd, ↓dChain, ↓bIn, ↓bIx, ↓dIxO, ↓dLenO, ↓dNo, ↓dYesO, ↓dSlice, ↓SlD, ↓dIsi, ↓dIsi2, ↓cLen, ↓cAll, ↓cStr, ↓cInt, ↓cTuple, ↓dListOf, ↓dCat, ↓dJoin, ↓dFmt, ↓dJs, ↓dJoined, ↓dGetT, ↓dInT, ↓dRev1, ↓bRep, ↓q1_at, ↓q2_at, ↓q3_at, ↓popex, ↓atx0, ↓atx1, ↓atx2, ↓atx3, ↓reduceIte,
  wipeD, backD, isInt, cast_succ_ne, at0, at1, at2, at3, ex_some, cut1, eqvS, eqvI, shS, shI, flatD, popget, emp_app, down0, down1, down2, down3, List.dropLast_concat, List.all_cons, List.all_nil, Bool.and_true, decide_eq_true_eq, isTy, isNone, startD, startF, List.map_cons, List.map_nil, List.length_cons, List.length_nil, List.nil_append, List.cons_append, List.replicate, List.getElem?_cons_zero, List.getElem?_cons_succ, List.getElem?_nil, List.set_cons_zero, List.set_cons_succ, List.set_nil, Nat.zero_add, Nat.reduceAdd, Nat.reduceSub, Nat.reduceLT, Nat.reduceLeDiff, Int.reduceAdd, Int.reduceSub, Int.toNat_natCast, if_true, if_false, ite_true, ite_false, Bool.false_eq_true, Bool.not_true, Bool.not_false, Bool.true_eq_false, true_and, and_true, Nat.sub_self, Nat.sub_zero, Nat.reduceMul, List.replicate_zero, List.append_nil])
      refine ⟨kk, _, sl, ins, rfl, hk, hd, ?_⟩
      rw [hK]
      cases ins <;>
      ((simp (config := {maxSteps := 3000000}) only [hF, Option.isSome_some, Option.isSome_none, ↓dSeq, ↓dIfS, ↓dRet, ↓dRetN, ↓dAsg, ↓dAsgO, ↓dSet_eq, ↓sc_n, ↓sc_d, ↓sc_o, ↓sc_y, ↓dDrop, ↓dAsgG, ↓dPar2, ↓dPar3, ↓dPopAt, ↓dInsert, ↓dRevL, ↓dRevT, ↓bRepS, ↓dgTup, ↓dgCons, ↓dgName, ↓dgNil, ↓dNext, ↓dBreak, ↓dCont, ↓dVar, ↓dC, ↓dOp, ↓dTest, ↓dAnd, ↓dOr, ↓dNot, ↓dAndV, ↓dOrV, ↓dNotV, ↓dIf, ↓dIfL, ↓dNil, ↓dCons, ↓dTup, ↓dLst, ↓dFrz, ↓dCall, ↓dCallP_h, ↓dCallF_h, ↓dCallN_h, ↓hid_1, ↓dSeqOf, ↓dRange1, ↓dRange2, ↓dEnum, ↓dZip, ↓dForD, ↓forD, ↓dLcD, ↓dYes, ↓dAppend, ↓dPop, ↓dExtend, ↓dSetItem, ↓dTruO, ↓bInt, ↓bAdd, ↓bAddB, ↓dNeg, ↓bEq, ↓bNe, ↓bIs, ↓bIsNot, ↓bLt, ↓bLe, ↓bGt, ↓bGe, ↓bOrd, ↓dChain, ↓bIn, ↓bIx, ↓dIxO, ↓dLenO, ↓dNo, ↓dYesO, ↓dSlice, ↓SlD, ↓dIsi, ↓dIsi2, ↓cLen, ↓cAll, ↓cStr, ↓cInt, ↓cTuple, ↓dListOf, ↓dCat, ↓dJoin, ↓dFmt, ↓dJs, ↓dJoined, ↓dGetT, ↓dInT, ↓dRev1, ↓bRep, ↓q1_at, ↓q2_at, ↓q3_at, ↓popex, ↓atx0, ↓atx1, ↓atx2, ↓atx3, ↓reduceIte,
  wipeD, backD, isInt, cast_succ_ne, at0, at1, at2, at3, ex_some, cut1, eqvS, eqvI, shS, shI, flatD, popget, emp_app, down0, down1, down2, down3, List.dropLast_concat, List.all_cons, List.all_nil, Bool.and_true, decide_eq_true_eq, isTy, isNone, startD, startF, List.map_cons, List.map_nil, List.length_cons, List.length_nil, List.nil_append, List.cons_append, List.replicate, List.getElem?_cons_zero, List.getElem?_cons_succ, List.getElem?_nil, List.set_cons_zero, List.set_cons_succ, List.set_nil, Nat.zero_add, Nat.reduceAdd, Nat.reduceSub, Nat.reduceLT, Nat.reduceLeDiff, Int.reduceAdd, Int.reduceSub, Int.toNat_natCast, if_true, if_false, ite_true, ite_false, Bool.false_eq_true, Bool.not_true, Bool.not_false, Bool.true_eq_false, true_and, and_true, Nat.sub_self, Nat.sub_zero, Nat.reduceMul, List.replicate_zero, List.append_nil])
       refine ⟨⟨⟨_, rfl, hk⟩, _, rfl⟩, by rw [let_len]; omega, by rw [let_len]; omega, by rw [let_len]; omega, ?_⟩
       rw [let_len]
       generalize (inD (PyData.str w1) [PyData.str "count", PyData.str "sum"]) = late
       refine forD_inv (fun i Γ => ∃ y8 y9 b1 b2, Γ = [some (Ent.dat (PyData.tuple [])), some (Ent.dat sl), some (Ent.dat (PyData.str (gl kk))), some (Ent.dat (PyData.tuple (PyData.str w1 :: r))), some (Ent.dat (PyData.bool b1)), some (Ent.dat (PyData.tuple (List.map PyData.int p))), some (Ent.dat (PyData.str (letters ks))), some (Ent.dat (PyData.bool b2)), odat y8, odat y9] ∧
         fwL (r.drop i) (ks.drop i) p ((i : Nat) + 1 : Int) = fwL r ks p 1) _ 0 _ ?_ ⟨none, none, _, _, rfl, rfl⟩ ?_
       · rintro j d e Γ N ⟨y8, y9, b1, b2, rfl, eq⟩ next
         rw [Nat.zero_add] at eq
         have lj : j < ks.length := by have := getlt e; rw [upto_len] at this; exact this
         rw [upto_get lj, Int.zero_add] at e
         cases e
         have lj2 : j < r.length := by omega
         have hs : ks[j]? = some ks[j] := List.getElem?_eq_getElem lj
         have s3 := (tab_all hT).2 ks[j] (List.getElem_mem lj)
         have hx : (PyData.str w1 :: r)[j + 1]? = some r[j] := by rw [List.getElem?_cons_succ]; exact List.getElem?_eq_getElem lj2
         have ox : Ok1 r[j] := hd.mem rfl (List.mem_cons_of_mem _ (List.getElem_mem lj2))
         have dx : r[j].depth < m := by
           have a := depth_mem (List.mem_cons_of_mem (PyData.str w1) (List.getElem_mem lj2))
           have b : PyData.depthAll (PyData.str w1 :: r) + 1 < m + 1 := h1
           omega
         have dx2 : p.length + 1 + r[j].depth ≤ 100 := by
           have a := depth_mem (List.mem_cons_of_mem (PyData.str w1) (List.getElem_mem lj2))
           have b : p.length + (PyData.depthAll (PyData.str w1 :: r) + 1) ≤ 100 := h2
           omega
         have step : fwL (r.drop j) (ks.drop j) p ((j : Nat) + 1 : Int) = if ks[j] = "name" then fwL (r.drop (j + 1)) (ks.drop (j + 1)) p ((j : Nat) + 1 + 1 : Int) else (fw r[j] ks[j] (p ++ [((j : Nat) : Int) + 1])).or (fwL (r.drop (j + 1)) (ks.drop (j + 1)) p ((j : Nat) + 1 + 1 : Int)) := by
           rw [List.drop_eq_getElem_cons lj2, List.drop_eq_getElem_cons lj]
           rfl
         (simp (config := {maxSteps := 3000000}) only [↓dSeq, ↓dIfS, ↓dRet, ↓dRetN, ↓dAsg, ↓dAsgO, ↓dSet_eq, ↓sc_n, ↓sc_d, ↓sc_o, ↓sc_y, ↓dDrop, ↓dAsgG, ↓dPar2, ↓dPar3, ↓dPopAt, ↓dInsert, ↓dRevL, ↓dRevT, ↓bRepS, ↓dgTup, ↓dgCons, ↓dgName, ↓dgNil, ↓dNext, ↓dBreak, ↓dCont, ↓dVar, ↓dC, ↓dOp, ↓dTest, ↓dAnd, ↓dOr, ↓dNot, ↓dAndV, ↓dOrV, ↓dNotV, ↓dIf, ↓dIfL, ↓dNil, ↓dCons, ↓dTup, ↓dLst, ↓dFrz, ↓dCall, ↓dCallP_h, ↓dCallF_h, ↓dCallN_h, ↓hid_1, ↓dSeqOf, ↓dRange1, ↓dRange2, ↓dEnum, ↓dZip, ↓dForD, ↓forD, ↓dLcD, ↓dYes, ↓dAppend, ↓dPop, ↓dExtend, ↓dSetItem, ↓dTruO, ↓bInt, ↓bAdd, ↓bAddB, ↓dNeg, ↓bEq, ↓bNe, ↓bIs, ↓bIsNot, ↓bLt, ↓bLe, ↓bGt, ↓bGe, ↓bOrd, ↓dChain, ↓bIn, ↓bIx, ↓dIxO, ↓dLenO, ↓dNo, ↓dYesO, ↓dSlice, ↓SlD, ↓dIsi, ↓dIsi2, ↓cLen, ↓cAll, ↓cStr, ↓cInt, ↓cTuple, ↓dListOf, ↓dCat, ↓dJoin, ↓dFmt, ↓dJs, ↓dJoined, ↓dGetT, ↓dInT, ↓dRev1, ↓bRep, ↓q1_at, ↓q2_at, ↓q3_at, ↓popex, ↓atx0, ↓atx1, ↓atx2, ↓atx3, ↓reduceIte,
  wipeD, backD, isInt, cast_succ_ne, at0, at1, at2, at3, ex_some, cut1, eqvS, eqvI, shS, shI, flatD, popget, emp_app, down0, down1, down2, down3, List.dropLast_concat, List.all_cons, List.all_nil, Bool.and_true, decide_eq_true_eq, isTy, isNone, startD, startF, List.map_cons, List.map_nil, List.length_cons, List.length_nil, List.nil_append, List.cons_append, List.replicate, List.getElem?_cons_zero, List.getElem?_cons_succ, List.getElem?_nil, List.set_cons_zero, List.set_cons_succ, List.set_nil, Nat.zero_add, Nat.reduceAdd, Nat.reduceSub, Nat.reduceLT, Nat.reduceLeDiff, Int.reduceAdd, Int.reduceSub, Int.toNat_natCast, if_true, if_false, ite_true, ite_false, Bool.false_eq_true, Bool.not_true, Bool.not_false, Bool.true_eq_false, true_and, and_true, Nat.sub_self, Nat.sub_zero, Nat.reduceMul, List.replicate_zero, List.append_nil])
         refine ⟨by rw [let_len]; omega, lt ks[j], at_nat (let_get hs), lt_ok s3, by decide +kernel, ?_⟩
         have es := lt_s s3
         by_cases q : ks[j] = "name"
         · rw [decide_eq_true q] at es
           rw [if_neg (by rw [es]; decide)]
           rw [if_pos q] at step
           exact next _ ⟨some (.int (j : Nat)), y9, b1, b2, rfl, by rw [Nat.zero_add, ← eq, step]; rfl⟩
         · rw [decide_eq_false q] at es
           rw [if_pos (by rw [es]; rfl)]
           rw [if_neg q] at step
           refine ⟨by rw [let_len]; omega, lt ks[j], at_nat (let_get hs), r[j], by rw [show (j : Int) + 1 = ((j + 1 : Nat) : Int) by omega]; exact at_nat hx, by rw [List.length_map]; omega, ?_⟩
           have s2 := tab_k hT (List.getElem_mem lj) q
           refine ⟨ks[j], r[j], sl, b2, p ++ [(j : Int) + 1], by rw [lt_gl s2, List.map_append]; rfl, s2, ox, dx, by rw [List.length_append]; exact dx2, ?_⟩
           cases hw : fw r[j] ks[j] (p ++ [(j : Int) + 1]) with
           | none =>
             rw [hw] at step
             (simp (config := {maxSteps := 3000000}) only [optP, ↓dSeq, ↓dIfS, ↓dRet, ↓dRetN, ↓dAsg, ↓dAsgO, ↓dSet_eq, ↓sc_n, ↓sc_d, ↓sc_o, ↓sc_y, ↓dDrop, ↓dAsgG, ↓dPar2, ↓dPar3, ↓dPopAt, ↓dInsert, ↓dRevL, ↓dRevT, ↓bRepS, ↓dgTup, ↓dgCons, ↓dgName, ↓dgNil, ↓dNext, ↓dBreak, ↓dCont, ↓dVar, ↓dC, ↓dOp, ↓dTest, ↓dAnd, ↓dOr, ↓dNot, ↓dAndV, ↓dOrV, ↓dNotV, ↓dIf, ↓dIfL, ↓dNil, ↓dCons, ↓dTup, ↓dLst, ↓dFrz, ↓dCall, ↓dCallP_h, ↓dCallF_h, ↓dCallN_h, ↓hid_1, ↓dSeqOf, ↓dRange1, ↓dRange2, ↓dEnum, ↓dZip, ↓dForD, ↓forD, ↓dLcD, ↓dYes, ↓dAppend, ↓dPop, ↓dExtend, ↓dSetItem, ↓dTruO, ↓bInt, ↓bAdd, ↓bAddB, ↓dNeg, ↓bEq, ↓bNe, ↓bIs, ↓bIsNot, ↓bLt, ↓bLe, ↓bGt, ↓bGe, ↓bOrd, ↓dChain, ↓bIn, ↓bIx, ↓dIxO, ↓dLenO, ↓dNo, ↓dYesO, ↓dSlice, ↓SlD, ↓dIsi, ↓dIsi2, ↓cLen, ↓cAll, ↓cStr, ↓cInt, ↓cTuple, ↓dListOf, ↓dCat, ↓dJoin, ↓dFmt, ↓dJs, ↓dJoined, ↓dGetT, ↓dInT, ↓dRev1, ↓bRep, ↓q1_at, ↓q2_at, ↓q3_at, ↓popex, ↓atx0, ↓atx1, ↓atx2, ↓atx3, ↓reduceIte,
  wipeD, backD, isInt, cast_succ_ne, at0, at1, at2, at3, ex_some, cut1, eqvS, eqvI, shS, shI, flatD, popget, emp_app, down0, down1, down2, down3, List.dropLast_concat, List.all_cons, List.all_nil, Bool.and_true, decide_eq_true_eq, isTy, isNone, startD, startF, List.map_cons, List.map_nil, List.length_cons, List.length_nil, List.nil_append, List.cons_append, List.replicate, List.getElem?_cons_zero, List.getElem?_cons_succ, List.getElem?_nil, List.set_cons_zero, List.set_cons_succ, List.set_nil, Nat.zero_add, Nat.reduceAdd, Nat.reduceSub, Nat.reduceLT, Nat.reduceLeDiff, Int.reduceAdd, Int.reduceSub, Int.toNat_natCast, if_true, if_false, ite_true, ite_false, Bool.false_eq_true, Bool.not_true, Bool.not_false, Bool.true_eq_false, true_and, and_true, Nat.sub_self, Nat.sub_zero, Nat.reduceMul, List.replicate_zero, List.append_nil])
             exact next _ ⟨some (.int (j : Nat)), some .none, b1, b2, rfl, by rw [Nat.zero_add, ← eq, step]; rfl⟩
           | some q' =>
             rw [hw] at step
             rw [← eq, step] at h
             (simp (config := {maxSteps := 3000000}) only [optP, ↓dSeq, ↓dIfS, ↓dRet, ↓dRetN, ↓dAsg, ↓dAsgO, ↓dSet_eq, ↓sc_n, ↓sc_d, ↓sc_o, ↓sc_y, ↓dDrop, ↓dAsgG, ↓dPar2, ↓dPar3, ↓dPopAt, ↓dInsert, ↓dRevL, ↓dRevT, ↓bRepS, ↓dgTup, ↓dgCons, ↓dgName, ↓dgNil, ↓dNext, ↓dBreak, ↓dCont, ↓dVar, ↓dC, ↓dOp, ↓dTest, ↓dAnd, ↓dOr, ↓dNot, ↓dAndV, ↓dOrV, ↓dNotV, ↓dIf, ↓dIfL, ↓dNil, ↓dCons, ↓dTup, ↓dLst, ↓dFrz, ↓dCall, ↓dCallP_h, ↓dCallF_h, ↓dCallN_h, ↓hid_1, ↓dSeqOf, ↓dRange1, ↓dRange2, ↓dEnum, ↓dZip, ↓dForD, ↓forD, ↓dLcD, ↓dYes, ↓dAppend, ↓dPop, ↓dExtend, ↓dSetItem, ↓dTruO, ↓bInt, ↓bAdd, ↓bAddB, ↓dNeg, ↓bEq, ↓bNe, ↓bIs, ↓bIsNot, ↓bLt, ↓bLe, ↓bGt, ↓bGe, ↓bOrd, ↓dChain, ↓bIn, ↓bIx, ↓dIxO, ↓dLenO, ↓dNo, ↓dYesO, ↓dSlice, ↓SlD, ↓dIsi, ↓dIsi2, ↓cLen, ↓cAll, ↓cStr, ↓cInt, ↓cTuple, ↓dListOf, ↓dCat, ↓dJoin, ↓dFmt, ↓dJs, ↓dJoined, ↓dGetT, ↓dInT, ↓dRev1, ↓bRep, ↓q1_at, ↓q2_at, ↓q3_at, ↓popex, ↓atx0, ↓atx1, ↓atx2, ↓atx3, ↓reduceIte,
  wipeD, backD, isInt, cast_succ_ne, at0, at1, at2, at3, ex_some, cut1, eqvS, eqvI, shS, shI, flatD, popget, emp_app, down0, down1, down2, down3, List.dropLast_concat, List.all_cons, List.all_nil, Bool.and_true, decide_eq_true_eq, isTy, isNone, startD, startF, List.map_cons, List.map_nil, List.length_cons, List.length_nil, List.nil_append, List.cons_append, List.replicate, List.getElem?_cons_zero, List.getElem?_cons_succ, List.getElem?_nil, List.set_cons_zero, List.set_cons_succ, List.set_nil, Nat.zero_add, Nat.reduceAdd, Nat.reduceSub, Nat.reduceLT, Nat.reduceLeDiff, Int.reduceAdd, Int.reduceSub, Int.toNat_natCast, if_true, if_false, ite_true, ite_false, Bool.false_eq_true, Bool.not_true, Bool.not_false, Bool.true_eq_false, true_and, and_true, Nat.sub_self, Nat.sub_zero, Nat.reduceMul, List.replicate_zero, List.append_nil])
             exact h
       · rintro Γ ⟨y8, y9, b1, b2, rfl, eq⟩
         rw [Nat.zero_add, upto_len, List.drop_of_length_le (Nat.le_of_eq hl)] at eq
         have e0 : fwL ([] : List PyData) (List.drop ks.length ks) p ((ks.length : Nat) + 1 : Int) = none := by simp [fwL]
         rw [← eq, e0] at h
         exact h)
theorem all_wrong {j : Nat} (B : B0 mg) (F : Fun K "_law_wrong" "_law_wrong" (top 31) f fd) (bF : Binds K fd ["_law_crew", "_law_slots", "_law_goal", "_law_item", "_law_inside", "_law_path_now"] []) (mF : mg "_law_wrong" = some (.ref f))
    (h__law_part_ok : Has P w K mg base "_law_part_ok" j ["_law_crew", "_law_slots", "_law_goal", "_law_item", "_law_inside"] (spP K pokS)) (h__law_plan : Has P w K mg base "_law_plan" j ["_law_goal", "_law_word"] (spP K (q2 planC planF))) :
    ∀ n : Nat, Has P w K mg base "_law_wrong" (j + n) ["_law_crew", "_law_slots", "_law_goal", "_law_item", "_law_inside", "_law_path_now"] (spP K (wrS n))
  | 0 => by
    have no : ∀ vs H Q E, ¬ spP K (wrS 0) vs H Q E := fun vs H Q E ⟨D, ds, _, _, k, d, sl, b, p, _, _, _, h, _⟩ => Nat.not_lt_zero _ h
    exact ⟨f, fd, ⟨fun vs H Q E h => absurd h (no vs H Q E), fun A outer s H args us vs Q E _ _ _ _ h => absurd h (no vs H Q E)⟩, mF, F.kp, bF⟩
  | n + 1 => ⟨f, fd, ok__law_wrong B F (h__law_part_ok.mono (Nat.le_add_right _ _)) (h__law_plan.mono (Nat.le_add_right _ _)) (all_wrong B F bF mF h__law_part_ok h__law_plan n), mF, F.kp, bF⟩
end
end T1

set_option Elab.async false
set_option linter.all false
set_option maxRecDepth 100000
set_option maxHeartbeats 1000000
namespace T1
open PySem PySem.Spec PyProof.Rows L2 DL
local macro_rules | `(tactic| walk_at "ds T1c") => `(tactic| simp only [↓dSeq, ↓dIfS, ↓dRet, ↓dRetN, ↓dAsg, ↓dAsgO, ↓dSet_eq, ↓sc_n, ↓sc_d, ↓sc_o, ↓sc_y, ↓dDrop, ↓dAsgG, ↓dPar2, ↓dPar3, ↓dPopAt, ↓dInsert, ↓dRevL, ↓dRevT, ↓bRepS, ↓dgTup, ↓dgCons, ↓dgName, ↓dgNil, ↓dNext, ↓dBreak, ↓dCont, ↓dVar, ↓dC, ↓dOp, ↓dTest, ↓dAnd, ↓dOr, ↓dNot, ↓dAndV, ↓dOrV, ↓dNotV, ↓dIf, ↓dIfL, ↓dNil, ↓dCons, ↓dTup, ↓dLst, ↓dFrz, ↓dCall, ↓dCallP_h, ↓dCallF_h, ↓dCallN_h, ↓hid_1, ↓dSeqOf, ↓dRange1, ↓dRange2, ↓dEnum, ↓dZip, ↓dForD, ↓forD, ↓dLcD, ↓dYes, ↓dAppend, ↓dPop, ↓dExtend, ↓dSetItem, ↓dTruO, ↓bInt, ↓bAdd, ↓bAddB, ↓dNeg, ↓bEq, ↓bNe, ↓bIs, ↓bIsNot, ↓bLt, ↓bLe, ↓bGt, ↓bGe, ↓bOrd, ↓dChain, ↓bIn, ↓bIx, ↓dIxO, ↓dLenO, ↓dNo, ↓dYesO, ↓dSlice, ↓SlD, ↓dIsi, ↓dIsi2, ↓cLen, ↓cAll, ↓cStr, ↓cInt, ↓cTuple, ↓dListOf, ↓dCat, ↓dJoin, ↓dFmt, ↓dJs, ↓dJoined, ↓dGetT, ↓dInT, ↓dRev1, ↓bRep, ↓q1_at, ↓q2_at, ↓q3_at, ↓popex, ↓atx0, ↓atx1, ↓atx2, ↓atx3, ↓reduceIte,
  wipeD, backD, isInt, cast_succ_ne, at0, at1, at2, at3, ex_some, cut1, eqvS, eqvI, shS, shI, flatD, popget, emp_app, down0, down1, down2, down3, List.dropLast_concat, List.all_cons, List.all_nil, Bool.and_true, decide_eq_true_eq, isTy, isNone, startD, startF, List.map_cons, List.map_nil, List.length_cons, List.length_nil, List.nil_append, List.cons_append, List.replicate, List.getElem?_cons_zero, List.getElem?_cons_succ, List.getElem?_nil, List.set_cons_zero, List.set_cons_succ, List.set_nil, Nat.zero_add, Nat.reduceAdd, Nat.reduceSub, Nat.reduceLT, Nat.reduceLeDiff, Int.reduceAdd, Int.reduceSub, Int.toNat_natCast, if_true, if_false, ite_true, ite_false, Bool.false_eq_true, Bool.not_true, Bool.not_false, Bool.true_eq_false, true_and, and_true, Nat.sub_self, Nat.sub_zero, Nat.reduceMul, List.replicate_zero, List.append_nil])
local macro_rules | `(tactic| walk_at "st T1c") => `(tactic| simp only [startF, startD, List.map_cons, List.map_nil, List.cons_append, List.nil_append, List.length_cons, List.length_nil, List.replicate, Nat.reduceAdd, Nat.reduceSub])

theorem wtL_set : ∀ {l : List PyData} {i : Nat} {x y : PyData}, l[i]? = some x → wtL (l.set i y) + wt x = wtL l + wt y
  | z :: r, 0, x, y, h => by
    cases h
    show wt y + 2 + wtL r + wt z = wt z + 2 + wtL r + wt y
    omega
  | z :: r, i + 1, x, y, h => by
    have := wtL_set (l := r) (i := i) (x := x) (y := y) (by simpa using h)
    show wt z + 2 + wtL (r.set i y) + wt x = wt z + 2 + wtL r + wt y
    omega
  | [], _, _, _, h => by simp at h -- k01
theorem wtL_erase : ∀ (l : List PyData) (i : Nat), wtL (l.eraseIdx i) ≤ wtL l
  | [], _ => Nat.le_refl _
  | z :: r, 0 => by show wtL r ≤ wt z + 2 + wtL r; omega
  | z :: r, i + 1 => by
    have := wtL_erase r i
    show wt z + 2 + wtL (r.eraseIdx i) ≤ wt z + 2 + wtL r
    omega
theorem wtL_ins (l : List PyData) (i : Nat) (y : PyData) : wtL (l.take i ++ [y] ++ l.drop i) = wtL l + wt y + 2 := by
  have e : wtL l = wtL (l.take i) + wtL (l.drop i) := by rw [← wtL_app, List.take_append_drop]
  rw [wtL_app, wtL_app, e]
  show wtL (l.take i) + (wt y + 2 + 0) + wtL (l.drop i) = _
  omega
theorem mem_ins {l : List PyData} {i : Nat} {y x : PyData} (h : x ∈ l.take i ++ [y] ++ l.drop i) : x = y ∨ x ∈ l := by
  rcases List.mem_append.mp h with h | h -- k01
  · rcases List.mem_append.mp h with h | h -- k01
    · exact .inr (List.mem_of_mem_take h)
    · exact .inl (List.mem_singleton.mp h)
  · exact .inr (List.mem_of_mem_drop h)
theorem mem_setD {l : List PyData} {i : Nat} {y x : PyData} (h : x ∈ l.set i y) : x = y ∨ x ∈ l := by
  rcases List.mem_or_eq_of_mem_set h with h | h
  · exact .inr h
  · exact .inl h
structure Ch (e : Nat) (d d' : PyData) : Prop where
  ok : okV (e + 1) d'
  dp : d'.depth ≤ d.depth + 2
  wt : T1.wt d' ≤ 2 * T1.wt d + 2000
structure Mn (menu : List PyData) : Prop where
  ne : menu ≠ []
  few : menu.length ≤ 100
  ok : ∀ z ∈ menu, okV 10 z ∧ z.depth ≤ 1 ∧ T1.wt z ≤ 1000
theorem ch_menu {e : Nat} {d z : PyData} {menu : List PyData} (m : Mn menu) (he : 10 ≤ e) (h : z ∈ menu) : Ch e d z := by
  obtain ⟨a, b, c⟩ := m.ok z h
  exact ⟨okV_le (by omega) a, by omega, by omega⟩
theorem wt_itm {d : PyData} {ds : List PyData} (h : itm d = some ds) : wt d = 6 + wtL ds := by
  cases d <;> cases h <;> rfl
theorem dp_itm {d : PyData} {ds : List PyData} (h : itm d = some ds) : d.depth = PyData.depthAll ds + 1 := by
  cases d <;> cases h <;> rfl
theorem ok_itm {e : Nat} {d : PyData} {ds : List PyData} (h : itm d = some ds) : okV e d ↔ okVL e ds := by
  cases d <;> cases h <;> exact Iff.rfl
theorem ch_items {e : Nat} {d d' : PyData} {ds es : List PyData} (h : itm d = some ds) (h' : itm d' = some es) (ok : okVL (e + 1) es) (dp : ∀ z ∈ es, z.depth ≤ d.depth + 1) (w : wtL es ≤ 2 * wtL ds + 2000) : Ch e d d' := by
  refine ⟨(ok_itm h').mpr ok, ?_, ?_⟩
  · rw [dp_itm h']
    have := depth_allL dp
    omega
  · rw [wt_itm h', wt_itm h]; omega
theorem ch_set {e : Nat} {d d' x y : PyData} {ds : List PyData} {i : Nat} (h : itm d = some ds) (o : okV e d) (hx : ds[i]? = some x) (c : Ch e x y) (h' : itm d' = some (ds.set i y)) : Ch e d d' := by
  have m := List.mem_of_getElem? hx
  have o' := (ok_itm h).mp o
  have b := depth_mem m
  have dd := dp_itm h
  have w1 := wtL_set (y := y) hx
  have w2 := wtL_mem m
  refine ch_items h h' (okVL_iff.mpr fun z hz => ?_) (fun z hz => ?_) ?_
  · rcases mem_setD hz with rfl | hz
    · exact c.ok
    · exact okV_le (Nat.le_succ _) (okVL_iff.mp o' z hz)
  · rcases mem_setD hz with rfl | hz
    · have := c.dp; omega
    · have := depth_mem hz; omega
  · have := c.wt; omega
theorem ch_pop {e : Nat} {d d' : PyData} {ds : List PyData} {i : Nat} (h : itm d = some ds) (o : okV e d) (h' : itm d' = some (ds.eraseIdx i)) : Ch e d d' := by
  have o' := (ok_itm h).mp o
  have dd := dp_itm h
  have w := wtL_erase ds i
  refine ch_items h h' (okVL_iff.mpr fun z hz => ?_) (fun z hz => ?_) (by omega)
  · exact okV_le (Nat.le_succ _) (okVL_iff.mp o' z (List.mem_of_mem_eraseIdx hz))
  · have := depth_mem (List.mem_of_mem_eraseIdx hz); omega
theorem ch_ins {e : Nat} {d d' y : PyData} {ds : List PyData} {i : Nat} (h : itm d = some ds) (o : okV e d) (oy : okV (e + 1) y) (dy : y.depth ≤ d.depth + 1) (wy : T1.wt y + 2 ≤ wtL ds + 2000) (h' : itm d' = some (ds.take i ++ [y] ++ ds.drop i)) : Ch e d d' := by
  have o' := (ok_itm h).mp o
  have dd := dp_itm h
  have w := wtL_ins ds i y
  refine ch_items h h' (okVL_iff.mpr fun z hz => ?_) (fun z hz => ?_) (by omega)
  · rcases mem_ins hz with rfl | hz
    · exact oy
    · exact okV_le (Nat.le_succ _) (okVL_iff.mp o' z hz)
  · rcases mem_ins hz with rfl | hz
    · exact dy
    · have := depth_mem hz; omega
theorem ch_turn {e : Nat} {d d' : PyData} {ds : List PyData} (h : itm d = some ds) (o : okV e d) (h' : itm d' = some ds) : Ch e d d' := by
  have o' := (ok_itm h).mp o
  have dd := dp_itm h
  refine ch_items h h' (okVL_iff.mpr fun z hz => okV_le (Nat.le_succ _) (okVL_iff.mp o' z hz)) (fun z hz => ?_) (by omega)
  have := depth_mem hz; omega
theorem ch_int {e : Nat} {i j : Int} (o : i.natAbs ≤ e) (hj : j.natAbs ≤ i.natAbs + 1) : Ch e (.int i) (.int j) := ⟨by show j.natAbs ≤ e + 1; omega, Nat.le_add_right _ _, by show 90 ≤ 2 * 90 + 2000; decide⟩
theorem ch_bool {e : Nat} {b : Bool} {j : Int} (he : 10 ≤ e) (hj : j.natAbs ≤ 3) : Ch e (.bool b) (.int j) := ⟨by show j.natAbs ≤ e + 1; omega, Nat.le_add_right _ _, by show 90 ≤ 2 * 6 + 2000; decide⟩
theorem ch_str {e : Nat} {x y : Str} (oy : chOk y) (hy : y.length ≤ x.length + 1) : Ch e (.str x) (.str y) := ⟨oy, Nat.le_add_right _ _, by show 10 * y.length + 6 ≤ 2 * (10 * x.length + 6) + 2000; omega⟩
theorem chOk_app {x y : Str} (a : chOk x) (b : chOk y) : chOk (x ++ y) := fun c hc => by
  rw [Str.cps_append, Array.toList_append] at hc
  rcases List.mem_append.mp hc with e | e
  · exact a c e
  · exact b c e
theorem chOk_cut {x : Str} {lo hi : Option Int} (a : chOk x) : chOk (cutS x lo hi) := fun c hc => by
  have hc : c ∈ (x.cps.toList.drop (HT.sIx x.length 0 lo)).take (HT.sIx x.length x.length hi - HT.sIx x.length 0 lo) := by simpa [cutS] using hc
  exact a c (List.mem_of_mem_drop (List.mem_of_mem_take hc))
theorem cut_len (x : Str) (lo hi : Option Int) : (cutS x lo hi).length ≤ x.length := by
  show ((x.cps.toList.drop (HT.sIx x.length 0 lo)).take (HT.sIx x.length x.length hi - HT.sIx x.length 0 lo)).toArray.size ≤ x.length
  rw [List.size_toArray, List.length_take, List.length_drop]
  have : x.cps.toList.length = x.length := by simp [Str.length]
  omega
theorem chOk_a : chOk "a" := fun c hc => by
  have e : (Str.ofString "a").cps.toList = [97] := by decide
  rw [e] at hc
  rw [List.mem_singleton.mp hc]; decide
theorem len_a : (Str.ofString "a").length = 1 := rfl
theorem at_in2 {ds : List PyData} {r : Int} (h0 : 0 ≤ r) (h1 : r < ds.length) : ∃ z, atI ds r = some z ∧ z ∈ ds ∧ ds[r.toNat]? = some z := by
  have hj : r.toNat < ds.length := by omega
  have er : r = ((r.toNat : Nat) : Int) := by omega
  refine ⟨ds[r.toNat], ?_, List.getElem_mem hj, List.getElem?_eq_getElem hj⟩
  have z : atI ds ((r.toNat : Nat) : Int) = some ds[r.toNat] := atI_nat (List.getElem?_eq_getElem hj)
  rw [← er] at z
  exact z
def chS (n : Nat) : FSpec := fun fs ds W => ∃ (d : PyData) (menu : List PyData) (e : Nat) (m : Int), ds = [d, .list menu] ∧ okV e d ∧ 10 ≤ e ∧ T1.wt d ≤ 90000 ∧ d.depth < n ∧ Mn menu ∧ RD fs m ∧ 0 ≤ m ∧ m + 10 * (n : Nat) < 2 ^ 40 ∧
  ∀ d' fs' m', RD fs' m' → m ≤ m' → m' ≤ m + 10 * (n : Nat) → Ch e d d' → W d' fs'
theorem chS_mono {n : Nat} : MonoF (chS n) := fun fs ds W W' mm ⟨d, menu, e, m, a, b, c, g, h1, h2, h3, h4, h5, h⟩ => ⟨d, menu, e, m, a, b, c, g, h1, h2, h3, h4, h5, fun d' fs' m' q1 q2 q3 q4 => mm _ _ (h d' fs' m' q1 q2 q3 q4)⟩
theorem S__law_changed : FnScope ["_law_reader_here", "_law_thing", "_law_menu", "_law_at", "_law_way", "_law_parts"] ["_law_reader_here", "_law_thing", "_law_menu"] (defScope (top 24)) := ⟨rfl, rfl, rfl, by decide +kernel, rfl, by decide +kernel, by decide +kernel⟩
section
variable {P : Program} {w : World} {K : PySem.W.Frag} {mg : Str → Option Value} {base : Heap} {k m : Nat} {f : Addr} {fd : FuncData}
theorem ok__law_changed {n : Nat} (B : B0 mg) (F : Fun K "_law_changed" "_law_changed" (top 24) f fd) (h__law_draw : Has P w K mg base "_law_draw" k ["_law_reader_here", "_law_many"] (spF K drS))
    (h__law_changed : Has P w K mg base "_law_changed" k ["_law_reader_here", "_law_thing", "_law_menu"] (spF K (chS n))) :
    FnOk P w K mg base CX0 (k + 1) f fd ["_law_reader_here", "_law_thing", "_law_menu"] (spF K (chS (n + 1))) := by
  refine okF F S__law_changed (fun fs ds Q ⟨_, _, _, _, e, _⟩ => by rw [e]; rfl) chS_mono fun cdv A outer s H E R hr => ⟨_, (pdss_cons (pds_if (pdw_and (pdt_val (pde_isi2 .tuple .list rfl rfl (pd_var 1) B.isinstance B.tuple B.list)) (pdw_and (pdt_gt (pde_len (pd_var 1) B.len) pd_int) (pdw_and1 (pdt_gt (pde_callHF 0 drS_mono h__law_draw hr (pda_cons pd_int pda_nil)) pd_int)))).t (pdss_cons (pds_par2 (i := 3) (j := 4) rfl S__law_changed.nd (pda_cons (pde_callHF 0 drS_mono h__law_draw hr (pda_cons (pde_len (pd_var 1) B.len) pda_nil)) (pda_cons (pde_callHF 0 drS_mono h__law_draw hr (pda_cons pd_int pda_nil)) pda_nil))) (pdss_cons (pds_setO (i := 5) S__law_changed.nd (pdl_list (pd_var 1) B.list)) (pdss_cons (pds_if (pdt_lt (pd_var 4) pd_int) (pdss_one (pds_setItem 5 (pde_callHF 0 chS_mono h__law_changed hr (pda_cons (pde_ixO 5 (pd_var 3)) (pda_cons (pd_var 2) pda_nil))) (pd_var 3))) (pdss_one (pds_if (pdt_eq hr.units (pd_var 4) pd_int) (pdss_one (pds_expr (pde_popAt 5 (pd_var 3)))) (pdss_one (pds_if (pdt_eq hr.units (pd_var 4) pd_int) (pdss_one (pds_insert 5 (pd_var 3) (pde_ixO 5 (pde_callHF 0 drS_mono h__law_draw hr (pda_cons (pde_lenO 5 B.len) pda_nil))))) (pdss_one (pds_insert 5 (pd_var 3) (pde_ix (pd_var 2) (pde_callHF 0 drS_mono h__law_draw hr (pda_cons (pde_len (pd_var 2) B.len) pda_nil)))))))))) (pdss_one (pds_ret (pde_if (pdt_val (pde_isi .list rfl (pd_var 1) B.isinstance B.list)) (pd_var 5) (pde_tuple (pd_var 5) B.tuple))))))) pdss_nil) (pdss_cons (pds_set (i := 4) S__law_changed.nd (pde_callHF 0 drS_mono h__law_draw hr (pda_cons pd_int pda_nil))) (pdss_cons (pds_if (pdw_and (pdt_eq hr.units (pd_var 4) pd_int) (pdw_and1 (pdt_val (pde_isi2 .tuple .list rfl rfl (pd_var 1) B.isinstance B.tuple B.list)))).t (pdss_one (pds_ret (pde_if (pdt_val (pde_isi .tuple rfl (pd_var 1) B.isinstance B.tuple)) (pde_frz (pdl_list (pd_var 1) B.list)) (pde_tuple (pd_var 1) B.tuple)))) pdss_nil) (pdss_cons (pds_if (pdw_and (pdt_eq hr.units (pd_var 4) pd_int) (pdw_and1 (pdt_val (pde_isi .int rfl (pd_var 1) B.isinstance B.int)))).t (pdss_one (pds_ret (pde_addB (pd_var 1) (pde_ix (pde_frz (pdl_lst (pda_cons pd_int (pda_cons (pde_neg pd_int) pda_nil)))) (pde_callHF 0 drS_mono h__law_draw hr (pda_cons pd_int pda_nil)))))) pdss_nil) (pdss_cons (pds_if (pdw_and (pdt_eq hr.units (pd_var 4) pd_int) (pdw_and1 (pdt_val (pde_isi .str rfl (pd_var 1) B.isinstance B.str)))).t (pdss_one (pds_ret (pde_if (pdt_eq hr.units (pde_callHF 0 drS_mono h__law_draw hr (pda_cons pd_int pda_nil)) pd_int) (pde_add (pd_var 1) pd_str) (pde_slice (pd_var 1) (pdo_some pd_int) pdo_none)))) pdss_nil) (pdss_one (pds_ret (pde_ix (pd_var 2) (pde_callHF 0 drS_mono h__law_draw hr (pda_cons (pde_len (pd_var 2) B.len) pda_nil)))))))))), ?_⟩
  rintro fs ds W ⟨d, menu, e, m, rfl, ok, he, hw, hd, hm, rd, m0, m1, h⟩
  have m1 : m + 10 * ((n + 1 : Nat) : Int) < 1099511627776 := m1
  have lm := List.length_pos_iff.mpr hm.ne
  have lm2 := hm.few
  cases d with
  | none =>
    walk_at "st T1c"
    (simp (config := {maxSteps := 3000000}) only [Bool.or_self, ↓dSeq, ↓dIfS, ↓dRet, ↓dRetN, ↓dAsg, ↓dAsgO, ↓dSet_eq, ↓sc_n, ↓sc_d, ↓sc_o, ↓sc_y, ↓dDrop, ↓dAsgG, ↓dPar2, ↓dPar3, ↓dPopAt, ↓dInsert, ↓dRevL, ↓dRevT, ↓bRepS, ↓dgTup, ↓dgCons, ↓dgName, ↓dgNil, ↓dNext, ↓dBreak, ↓dCont, ↓dVar, ↓dC, ↓dOp, ↓dTest, ↓dAnd, ↓dOr, ↓dNot, ↓dAndV, ↓dOrV, ↓dNotV, ↓dIf, ↓dIfL, ↓dNil, ↓dCons, ↓dTup, ↓dLst, ↓dFrz, ↓dCall, ↓dCallP_h, ↓dCallF_h, ↓dCallN_h, ↓hid_1, ↓dSeqOf, ↓dRange1, ↓dRange2, ↓dEnum, ↓dZip, ↓dForD, ↓forD, ↓dLcD, ↓dYes, ↓dAppend, ↓dPop, ↓dExtend, ↓dSetItem, ↓dTruO, ↓bInt, ↓bAdd, ↓bAddB, ↓dNeg, ↓bEq, ↓bNe, ↓bIs, ↓bIsNot, ↓bLt, ↓bLe, ↓bGt, ↓bGe, ↓bOrd, ↓dChain, ↓bIn, ↓bIx, ↓dIxO, ↓dLenO, ↓dNo, ↓dYesO, ↓dSlice, ↓SlD, ↓dIsi, ↓dIsi2, ↓cLen, ↓cAll, ↓cStr, ↓cInt, ↓cTuple, ↓dListOf, ↓dCat, ↓dJoin, ↓dFmt, ↓dJs, ↓dJoined, ↓dGetT, ↓dInT, ↓dRev1, ↓bRep, ↓q1_at, ↓q2_at, ↓q3_at, ↓popex, ↓atx0, ↓atx1, ↓atx2, ↓atx3, ↓reduceIte,
  wipeD, backD, isInt, cast_succ_ne, at0, at1, at2, at3, ex_some, cut1, eqvS, eqvI, shS, shI, flatD, popget, emp_app, down0, down1, down2, down3, List.dropLast_concat, List.all_cons, List.all_nil, Bool.and_true, decide_eq_true_eq, isTy, isNone, startD, startF, List.map_cons, List.map_nil, List.length_cons, List.length_nil, List.nil_append, List.cons_append, List.replicate, List.getElem?_cons_zero, List.getElem?_cons_succ, List.getElem?_nil, List.set_cons_zero, List.set_cons_succ, List.set_nil, Nat.zero_add, Nat.reduceAdd, Nat.reduceSub, Nat.reduceLT, Nat.reduceLeDiff, Int.reduceAdd, Int.reduceSub, Int.toNat_natCast, if_true, if_false, ite_true, ite_false, Bool.false_eq_true, Bool.not_true, Bool.not_false, Bool.true_eq_false, true_and, and_true, Nat.sub_self, Nat.sub_zero, Nat.reduceMul, List.replicate_zero, List.append_nil])
    refine ⟨_, 4, rd, by omega, by show _ < (1099511627776 : Int); omega, rfl, by decide, by decide, fun r fsr r0 r1 rdr => ?_⟩
    by_cases q0 : r = 0
    · subst q0
      (simp (config := {maxSteps := 3000000}) only [↓dSeq, ↓dIfS, ↓dRet, ↓dRetN, ↓dAsg, ↓dAsgO, ↓dSet_eq, ↓sc_n, ↓sc_d, ↓sc_o, ↓sc_y, ↓dDrop, ↓dAsgG, ↓dPar2, ↓dPar3, ↓dPopAt, ↓dInsert, ↓dRevL, ↓dRevT, ↓bRepS, ↓dgTup, ↓dgCons, ↓dgName, ↓dgNil, ↓dNext, ↓dBreak, ↓dCont, ↓dVar, ↓dC, ↓dOp, ↓dTest, ↓dAnd, ↓dOr, ↓dNot, ↓dAndV, ↓dOrV, ↓dNotV, ↓dIf, ↓dIfL, ↓dNil, ↓dCons, ↓dTup, ↓dLst, ↓dFrz, ↓dCall, ↓dCallP_h, ↓dCallF_h, ↓dCallN_h, ↓hid_1, ↓dSeqOf, ↓dRange1, ↓dRange2, ↓dEnum, ↓dZip, ↓dForD, ↓forD, ↓dLcD, ↓dYes, ↓dAppend, ↓dPop, ↓dExtend, ↓dSetItem, ↓dTruO, ↓bInt, ↓bAdd, ↓bAddB, ↓dNeg, ↓bEq, ↓bNe, ↓bIs, ↓bIsNot, ↓bLt, ↓bLe, ↓bGt, ↓bGe, ↓bOrd, ↓dChain, ↓bIn, ↓bIx, ↓dIxO, ↓dLenO, ↓dNo, ↓dYesO, ↓dSlice, ↓SlD, ↓dIsi, ↓dIsi2, ↓cLen, ↓cAll, ↓cStr, ↓cInt, ↓cTuple, ↓dListOf, ↓dCat, ↓dJoin, ↓dFmt, ↓dJs, ↓dJoined, ↓dGetT, ↓dInT, ↓dRev1, ↓bRep, ↓q1_at, ↓q2_at, ↓q3_at, ↓popex, ↓atx0, ↓atx1, ↓atx2, ↓atx3, ↓reduceIte,
  wipeD, backD, isInt, cast_succ_ne, at0, at1, at2, at3, ex_some, cut1, eqvS, eqvI, shS, shI, flatD, popget, emp_app, down0, down1, down2, down3, List.dropLast_concat, List.all_cons, List.all_nil, Bool.and_true, decide_eq_true_eq, isTy, isNone, startD, startF, List.map_cons, List.map_nil, List.length_cons, List.length_nil, List.nil_append, List.cons_append, List.replicate, List.getElem?_cons_zero, List.getElem?_cons_succ, List.getElem?_nil, List.set_cons_zero, List.set_cons_succ, List.set_nil, Nat.zero_add, Nat.reduceAdd, Nat.reduceSub, Nat.reduceLT, Nat.reduceLeDiff, Int.reduceAdd, Int.reduceSub, Int.toNat_natCast, if_true, if_false, ite_true, ite_false, Bool.false_eq_true, Bool.not_true, Bool.not_false, Bool.true_eq_false, true_and, and_true, Nat.sub_self, Nat.sub_zero, Nat.reduceMul, List.replicate_zero, List.append_nil])
      refine ⟨_, ((menu.length : Nat) : Int), rdr, by omega, by show _ < (1099511627776 : Int); omega, rfl, by omega, by omega, fun ra fsa ra0 ra1 rda => ?_⟩
      (simp (config := {maxSteps := 3000000}) only [↓dSeq, ↓dIfS, ↓dRet, ↓dRetN, ↓dAsg, ↓dAsgO, ↓dSet_eq, ↓sc_n, ↓sc_d, ↓sc_o, ↓sc_y, ↓dDrop, ↓dAsgG, ↓dPar2, ↓dPar3, ↓dPopAt, ↓dInsert, ↓dRevL, ↓dRevT, ↓bRepS, ↓dgTup, ↓dgCons, ↓dgName, ↓dgNil, ↓dNext, ↓dBreak, ↓dCont, ↓dVar, ↓dC, ↓dOp, ↓dTest, ↓dAnd, ↓dOr, ↓dNot, ↓dAndV, ↓dOrV, ↓dNotV, ↓dIf, ↓dIfL, ↓dNil, ↓dCons, ↓dTup, ↓dLst, ↓dFrz, ↓dCall, ↓dCallP_h, ↓dCallF_h, ↓dCallN_h, ↓hid_1, ↓dSeqOf, ↓dRange1, ↓dRange2, ↓dEnum, ↓dZip, ↓dForD, ↓forD, ↓dLcD, ↓dYes, ↓dAppend, ↓dPop, ↓dExtend, ↓dSetItem, ↓dTruO, ↓bInt, ↓bAdd, ↓bAddB, ↓dNeg, ↓bEq, ↓bNe, ↓bIs, ↓bIsNot, ↓bLt, ↓bLe, ↓bGt, ↓bGe, ↓bOrd, ↓dChain, ↓bIn, ↓bIx, ↓dIxO, ↓dLenO, ↓dNo, ↓dYesO, ↓dSlice, ↓SlD, ↓dIsi, ↓dIsi2, ↓cLen, ↓cAll, ↓cStr, ↓cInt, ↓cTuple, ↓dListOf, ↓dCat, ↓dJoin, ↓dFmt, ↓dJs, ↓dJoined, ↓dGetT, ↓dInT, ↓dRev1, ↓bRep, ↓q1_at, ↓q2_at, ↓q3_at, ↓popex, ↓atx0, ↓atx1, ↓atx2, ↓atx3, ↓reduceIte,
  wipeD, backD, isInt, cast_succ_ne, at0, at1, at2, at3, ex_some, cut1, eqvS, eqvI, shS, shI, flatD, popget, emp_app, down0, down1, down2, down3, List.dropLast_concat, List.all_cons, List.all_nil, Bool.and_true, decide_eq_true_eq, isTy, isNone, startD, startF, List.map_cons, List.map_nil, List.length_cons, List.length_nil, List.nil_append, List.cons_append, List.replicate, List.getElem?_cons_zero, List.getElem?_cons_succ, List.getElem?_nil, List.set_cons_zero, List.set_cons_succ, List.set_nil, Nat.zero_add, Nat.reduceAdd, Nat.reduceSub, Nat.reduceLT, Nat.reduceLeDiff, Int.reduceAdd, Int.reduceSub, Int.toNat_natCast, if_true, if_false, ite_true, ite_false, Bool.false_eq_true, Bool.not_true, Bool.not_false, Bool.true_eq_false, true_and, and_true, Nat.sub_self, Nat.sub_zero, Nat.reduceMul, List.replicate_zero, List.append_nil])
      obtain ⟨z, ez, mz⟩ := at_in ra0 ra1
      exact ⟨z, ez, fun es ee => by cases ee; exact h z fsa _ rda (by omega) (by omega) (ch_menu hm he mz)⟩
    · by_cases q1 : r = 1
      · subst q1
        (simp (config := {maxSteps := 3000000}) only [↓dSeq, ↓dIfS, ↓dRet, ↓dRetN, ↓dAsg, ↓dAsgO, ↓dSet_eq, ↓sc_n, ↓sc_d, ↓sc_o, ↓sc_y, ↓dDrop, ↓dAsgG, ↓dPar2, ↓dPar3, ↓dPopAt, ↓dInsert, ↓dRevL, ↓dRevT, ↓bRepS, ↓dgTup, ↓dgCons, ↓dgName, ↓dgNil, ↓dNext, ↓dBreak, ↓dCont, ↓dVar, ↓dC, ↓dOp, ↓dTest, ↓dAnd, ↓dOr, ↓dNot, ↓dAndV, ↓dOrV, ↓dNotV, ↓dIf, ↓dIfL, ↓dNil, ↓dCons, ↓dTup, ↓dLst, ↓dFrz, ↓dCall, ↓dCallP_h, ↓dCallF_h, ↓dCallN_h, ↓hid_1, ↓dSeqOf, ↓dRange1, ↓dRange2, ↓dEnum, ↓dZip, ↓dForD, ↓forD, ↓dLcD, ↓dYes, ↓dAppend, ↓dPop, ↓dExtend, ↓dSetItem, ↓dTruO, ↓bInt, ↓bAdd, ↓bAddB, ↓dNeg, ↓bEq, ↓bNe, ↓bIs, ↓bIsNot, ↓bLt, ↓bLe, ↓bGt, ↓bGe, ↓bOrd, ↓dChain, ↓bIn, ↓bIx, ↓dIxO, ↓dLenO, ↓dNo, ↓dYesO, ↓dSlice, ↓SlD, ↓dIsi, ↓dIsi2, ↓cLen, ↓cAll, ↓cStr, ↓cInt, ↓cTuple, ↓dListOf, ↓dCat, ↓dJoin, ↓dFmt, ↓dJs, ↓dJoined, ↓dGetT, ↓dInT, ↓dRev1, ↓bRep, ↓q1_at, ↓q2_at, ↓q3_at, ↓popex, ↓atx0, ↓atx1, ↓atx2, ↓atx3, ↓reduceIte,
  wipeD, backD, isInt, cast_succ_ne, at0, at1, at2, at3, ex_some, cut1, eqvS, eqvI, shS, shI, flatD, popget, emp_app, down0, down1, down2, down3, List.dropLast_concat, List.all_cons, List.all_nil, Bool.and_true, decide_eq_true_eq, isTy, isNone, startD, startF, List.map_cons, List.map_nil, List.length_cons, List.length_nil, List.nil_append, List.cons_append, List.replicate, List.getElem?_cons_zero, List.getElem?_cons_succ, List.getElem?_nil, List.set_cons_zero, List.set_cons_succ, List.set_nil, Nat.zero_add, Nat.reduceAdd, Nat.reduceSub, Nat.reduceLT, Nat.reduceLeDiff, Int.reduceAdd, Int.reduceSub, Int.toNat_natCast, if_true, if_false, ite_true, ite_false, Bool.false_eq_true, Bool.not_true, Bool.not_false, Bool.true_eq_false, true_and, and_true, Nat.sub_self, Nat.sub_zero, Nat.reduceMul, List.replicate_zero, List.append_nil])
        refine ⟨_, ((menu.length : Nat) : Int), rdr, by omega, by show _ < (1099511627776 : Int); omega, rfl, by omega, by omega, fun ra fsa ra0 ra1 rda => ?_⟩
        (simp (config := {maxSteps := 3000000}) only [↓dSeq, ↓dIfS, ↓dRet, ↓dRetN, ↓dAsg, ↓dAsgO, ↓dSet_eq, ↓sc_n, ↓sc_d, ↓sc_o, ↓sc_y, ↓dDrop, ↓dAsgG, ↓dPar2, ↓dPar3, ↓dPopAt, ↓dInsert, ↓dRevL, ↓dRevT, ↓bRepS, ↓dgTup, ↓dgCons, ↓dgName, ↓dgNil, ↓dNext, ↓dBreak, ↓dCont, ↓dVar, ↓dC, ↓dOp, ↓dTest, ↓dAnd, ↓dOr, ↓dNot, ↓dAndV, ↓dOrV, ↓dNotV, ↓dIf, ↓dIfL, ↓dNil, ↓dCons, ↓dTup, ↓dLst, ↓dFrz, ↓dCall, ↓dCallP_h, ↓dCallF_h, ↓dCallN_h, ↓hid_1, ↓dSeqOf, ↓dRange1, ↓dRange2, ↓dEnum, ↓dZip, ↓dForD, ↓forD, ↓dLcD, ↓dYes, ↓dAppend, ↓dPop, ↓dExtend, ↓dSetItem, ↓dTruO, ↓bInt, ↓bAdd, ↓bAddB, ↓dNeg, ↓bEq, ↓bNe, ↓bIs, ↓bIsNot, ↓bLt, ↓bLe, ↓bGt, ↓bGe, ↓bOrd, ↓dChain, ↓bIn, ↓bIx, ↓dIxO, ↓dLenO, ↓dNo, ↓dYesO, ↓dSlice, ↓SlD, ↓dIsi, ↓dIsi2, ↓cLen, ↓cAll, ↓cStr, ↓cInt, ↓cTuple, ↓dListOf, ↓dCat, ↓dJoin, ↓dFmt, ↓dJs, ↓dJoined, ↓dGetT, ↓dInT, ↓dRev1, ↓bRep, ↓q1_at, ↓q2_at, ↓q3_at, ↓popex, ↓atx0, ↓atx1, ↓atx2, ↓atx3, ↓reduceIte,
  wipeD, backD, isInt, cast_succ_ne, at0, at1, at2, at3, ex_some, cut1, eqvS, eqvI, shS, shI, flatD, popget, emp_app, down0, down1, down2, down3, List.dropLast_concat, List.all_cons, List.all_nil, Bool.and_true, decide_eq_true_eq, isTy, isNone, startD, startF, List.map_cons, List.map_nil, List.length_cons, List.length_nil, List.nil_append, List.cons_append, List.replicate, List.getElem?_cons_zero, List.getElem?_cons_succ, List.getElem?_nil, List.set_cons_zero, List.set_cons_succ, List.set_nil, Nat.zero_add, Nat.reduceAdd, Nat.reduceSub, Nat.reduceLT, Nat.reduceLeDiff, Int.reduceAdd, Int.reduceSub, Int.toNat_natCast, if_true, if_false, ite_true, ite_false, Bool.false_eq_true, Bool.not_true, Bool.not_false, Bool.true_eq_false, true_and, and_true, Nat.sub_self, Nat.sub_zero, Nat.reduceMul, List.replicate_zero, List.append_nil])
        obtain ⟨z, ez, mz⟩ := at_in ra0 ra1
        exact ⟨z, ez, fun es ee => by cases ee; exact h z fsa _ rda (by omega) (by omega) (ch_menu hm he mz)⟩
      · (simp (config := {maxSteps := 3000000}) only [q0, q1, ↓dSeq, ↓dIfS, ↓dRet, ↓dRetN, ↓dAsg, ↓dAsgO, ↓dSet_eq, ↓sc_n, ↓sc_d, ↓sc_o, ↓sc_y, ↓dDrop, ↓dAsgG, ↓dPar2, ↓dPar3, ↓dPopAt, ↓dInsert, ↓dRevL, ↓dRevT, ↓bRepS, ↓dgTup, ↓dgCons, ↓dgName, ↓dgNil, ↓dNext, ↓dBreak, ↓dCont, ↓dVar, ↓dC, ↓dOp, ↓dTest, ↓dAnd, ↓dOr, ↓dNot, ↓dAndV, ↓dOrV, ↓dNotV, ↓dIf, ↓dIfL, ↓dNil, ↓dCons, ↓dTup, ↓dLst, ↓dFrz, ↓dCall, ↓dCallP_h, ↓dCallF_h, ↓dCallN_h, ↓hid_1, ↓dSeqOf, ↓dRange1, ↓dRange2, ↓dEnum, ↓dZip, ↓dForD, ↓forD, ↓dLcD, ↓dYes, ↓dAppend, ↓dPop, ↓dExtend, ↓dSetItem, ↓dTruO, ↓bInt, ↓bAdd, ↓bAddB, ↓dNeg, ↓bEq, ↓bNe, ↓bIs, ↓bIsNot, ↓bLt, ↓bLe, ↓bGt, ↓bGe, ↓bOrd, ↓dChain, ↓bIn, ↓bIx, ↓dIxO, ↓dLenO, ↓dNo, ↓dYesO, ↓dSlice, ↓SlD, ↓dIsi, ↓dIsi2, ↓cLen, ↓cAll, ↓cStr, ↓cInt, ↓cTuple, ↓dListOf, ↓dCat, ↓dJoin, ↓dFmt, ↓dJs, ↓dJoined, ↓dGetT, ↓dInT, ↓dRev1, ↓bRep, ↓q1_at, ↓q2_at, ↓q3_at, ↓popex, ↓atx0, ↓atx1, ↓atx2, ↓atx3, ↓reduceIte,
  wipeD, backD, isInt, cast_succ_ne, at0, at1, at2, at3, ex_some, cut1, eqvS, eqvI, shS, shI, flatD, popget, emp_app, down0, down1, down2, down3, List.dropLast_concat, List.all_cons, List.all_nil, Bool.and_true, decide_eq_true_eq, isTy, isNone, startD, startF, List.map_cons, List.map_nil, List.length_cons, List.length_nil, List.nil_append, List.cons_append, List.replicate, List.getElem?_cons_zero, List.getElem?_cons_succ, List.getElem?_nil, List.set_cons_zero, List.set_cons_succ, List.set_nil, Nat.zero_add, Nat.reduceAdd, Nat.reduceSub, Nat.reduceLT, Nat.reduceLeDiff, Int.reduceAdd, Int.reduceSub, Int.toNat_natCast, if_true, if_false, ite_true, ite_false, Bool.false_eq_true, Bool.not_true, Bool.not_false, Bool.true_eq_false, true_and, and_true, Nat.sub_self, Nat.sub_zero, Nat.reduceMul, List.replicate_zero, List.append_nil])
        refine ⟨_, ((menu.length : Nat) : Int), rdr, by omega, by show _ < (1099511627776 : Int); omega, rfl, by omega, by omega, fun ra fsa ra0 ra1 rda => ?_⟩
        (simp (config := {maxSteps := 3000000}) only [↓dSeq, ↓dIfS, ↓dRet, ↓dRetN, ↓dAsg, ↓dAsgO, ↓dSet_eq, ↓sc_n, ↓sc_d, ↓sc_o, ↓sc_y, ↓dDrop, ↓dAsgG, ↓dPar2, ↓dPar3, ↓dPopAt, ↓dInsert, ↓dRevL, ↓dRevT, ↓bRepS, ↓dgTup, ↓dgCons, ↓dgName, ↓dgNil, ↓dNext, ↓dBreak, ↓dCont, ↓dVar, ↓dC, ↓dOp, ↓dTest, ↓dAnd, ↓dOr, ↓dNot, ↓dAndV, ↓dOrV, ↓dNotV, ↓dIf, ↓dIfL, ↓dNil, ↓dCons, ↓dTup, ↓dLst, ↓dFrz, ↓dCall, ↓dCallP_h, ↓dCallF_h, ↓dCallN_h, ↓hid_1, ↓dSeqOf, ↓dRange1, ↓dRange2, ↓dEnum, ↓dZip, ↓dForD, ↓forD, ↓dLcD, ↓dYes, ↓dAppend, ↓dPop, ↓dExtend, ↓dSetItem, ↓dTruO, ↓bInt, ↓bAdd, ↓bAddB, ↓dNeg, ↓bEq, ↓bNe, ↓bIs, ↓bIsNot, ↓bLt, ↓bLe, ↓bGt, ↓bGe, ↓bOrd, ↓dChain, ↓bIn, ↓bIx, ↓dIxO, ↓dLenO, ↓dNo, ↓dYesO, ↓dSlice, ↓SlD, ↓dIsi, ↓dIsi2, ↓cLen, ↓cAll, ↓cStr, ↓cInt, ↓cTuple, ↓dListOf, ↓dCat, ↓dJoin, ↓dFmt, ↓dJs, ↓dJoined, ↓dGetT, ↓dInT, ↓dRev1, ↓bRep, ↓q1_at, ↓q2_at, ↓q3_at, ↓popex, ↓atx0, ↓atx1, ↓atx2, ↓atx3, ↓reduceIte,
  wipeD, backD, isInt, cast_succ_ne, at0, at1, at2, at3, ex_some, cut1, eqvS, eqvI, shS, shI, flatD, popget, emp_app, down0, down1, down2, down3, List.dropLast_concat, List.all_cons, List.all_nil, Bool.and_true, decide_eq_true_eq, isTy, isNone, startD, startF, List.map_cons, List.map_nil, List.length_cons, List.length_nil, List.nil_append, List.cons_append, List.replicate, List.getElem?_cons_zero, List.getElem?_cons_succ, List.getElem?_nil, List.set_cons_zero, List.set_cons_succ, List.set_nil, Nat.zero_add, Nat.reduceAdd, Nat.reduceSub, Nat.reduceLT, Nat.reduceLeDiff, Int.reduceAdd, Int.reduceSub, Int.toNat_natCast, if_true, if_false, ite_true, ite_false, Bool.false_eq_true, Bool.not_true, Bool.not_false, Bool.true_eq_false, true_and, and_true, Nat.sub_self, Nat.sub_zero, Nat.reduceMul, List.replicate_zero, List.append_nil])
        obtain ⟨z, ez, mz⟩ := at_in ra0 ra1
        exact ⟨z, ez, fun es ee => by cases ee; exact h z fsa _ rda (by omega) (by omega) (ch_menu hm he mz)⟩
  | bool b =>
    walk_at "st T1c"
    (simp (config := {maxSteps := 3000000}) only [Bool.or_self, ↓dSeq, ↓dIfS, ↓dRet, ↓dRetN, ↓dAsg, ↓dAsgO, ↓dSet_eq, ↓sc_n, ↓sc_d, ↓sc_o, ↓sc_y, ↓dDrop, ↓dAsgG, ↓dPar2, ↓dPar3, ↓dPopAt, ↓dInsert, ↓dRevL, ↓dRevT, ↓bRepS, ↓dgTup, ↓dgCons, ↓dgName, ↓dgNil, ↓dNext, ↓dBreak, ↓dCont, ↓dVar, ↓dC, ↓dOp, ↓dTest, ↓dAnd, ↓dOr, ↓dNot, ↓dAndV, ↓dOrV, ↓dNotV, ↓dIf, ↓dIfL, ↓dNil, ↓dCons, ↓dTup, ↓dLst, ↓dFrz, ↓dCall, ↓dCallP_h, ↓dCallF_h, ↓dCallN_h, ↓hid_1, ↓dSeqOf, ↓dRange1, ↓dRange2, ↓dEnum, ↓dZip, ↓dForD, ↓forD, ↓dLcD, ↓dYes, ↓dAppend, ↓dPop, ↓dExtend, ↓dSetItem, ↓dTruO, ↓bInt, ↓bAdd, ↓bAddB, ↓dNeg, ↓bEq, ↓bNe, ↓bIs, ↓bIsNot, ↓bLt, ↓bLe, ↓bGt, ↓bGe, ↓bOrd, ↓dChain, ↓bIn, ↓bIx, ↓dIxO, ↓dLenO, ↓dNo, ↓dYesO, ↓dSlice, ↓SlD, ↓dIsi, ↓dIsi2, ↓cLen, ↓cAll, ↓cStr, ↓cInt, ↓cTuple, ↓dListOf, ↓dCat, ↓dJoin, ↓dFmt, ↓dJs, ↓dJoined, ↓dGetT, ↓dInT, ↓dRev1, ↓bRep, ↓q1_at, ↓q2_at, ↓q3_at, ↓popex, ↓atx0, ↓atx1, ↓atx2, ↓atx3, ↓reduceIte,
  wipeD, backD, isInt, cast_succ_ne, at0, at1, at2, at3, ex_some, cut1, eqvS, eqvI, shS, shI, flatD, popget, emp_app, down0, down1, down2, down3, List.dropLast_concat, List.all_cons, List.all_nil, Bool.and_true, decide_eq_true_eq, isTy, isNone, startD, startF, List.map_cons, List.map_nil, List.length_cons, List.length_nil, List.nil_append, List.cons_append, List.replicate, List.getElem?_cons_zero, List.getElem?_cons_succ, List.getElem?_nil, List.set_cons_zero, List.set_cons_succ, List.set_nil, Nat.zero_add, Nat.reduceAdd, Nat.reduceSub, Nat.reduceLT, Nat.reduceLeDiff, Int.reduceAdd, Int.reduceSub, Int.toNat_natCast, if_true, if_false, ite_true, ite_false, Bool.false_eq_true, Bool.not_true, Bool.not_false, Bool.true_eq_false, true_and, and_true, Nat.sub_self, Nat.sub_zero, Nat.reduceMul, List.replicate_zero, List.append_nil])
    refine ⟨_, 4, rd, by omega, by show _ < (1099511627776 : Int); omega, rfl, by decide, by decide, fun r fsr r0 r1 rdr => ?_⟩
    by_cases q0 : r = 0
    · subst q0
      (simp (config := {maxSteps := 3000000}) only [↓dSeq, ↓dIfS, ↓dRet, ↓dRetN, ↓dAsg, ↓dAsgO, ↓dSet_eq, ↓sc_n, ↓sc_d, ↓sc_o, ↓sc_y, ↓dDrop, ↓dAsgG, ↓dPar2, ↓dPar3, ↓dPopAt, ↓dInsert, ↓dRevL, ↓dRevT, ↓bRepS, ↓dgTup, ↓dgCons, ↓dgName, ↓dgNil, ↓dNext, ↓dBreak, ↓dCont, ↓dVar, ↓dC, ↓dOp, ↓dTest, ↓dAnd, ↓dOr, ↓dNot, ↓dAndV, ↓dOrV, ↓dNotV, ↓dIf, ↓dIfL, ↓dNil, ↓dCons, ↓dTup, ↓dLst, ↓dFrz, ↓dCall, ↓dCallP_h, ↓dCallF_h, ↓dCallN_h, ↓hid_1, ↓dSeqOf, ↓dRange1, ↓dRange2, ↓dEnum, ↓dZip, ↓dForD, ↓forD, ↓dLcD, ↓dYes, ↓dAppend, ↓dPop, ↓dExtend, ↓dSetItem, ↓dTruO, ↓bInt, ↓bAdd, ↓bAddB, ↓dNeg, ↓bEq, ↓bNe, ↓bIs, ↓bIsNot, ↓bLt, ↓bLe, ↓bGt, ↓bGe, ↓bOrd, ↓dChain, ↓bIn, ↓bIx, ↓dIxO, ↓dLenO, ↓dNo, ↓dYesO, ↓dSlice, ↓SlD, ↓dIsi, ↓dIsi2, ↓cLen, ↓cAll, ↓cStr, ↓cInt, ↓cTuple, ↓dListOf, ↓dCat, ↓dJoin, ↓dFmt, ↓dJs, ↓dJoined, ↓dGetT, ↓dInT, ↓dRev1, ↓bRep, ↓q1_at, ↓q2_at, ↓q3_at, ↓popex, ↓atx0, ↓atx1, ↓atx2, ↓atx3, ↓reduceIte,
  wipeD, backD, isInt, cast_succ_ne, at0, at1, at2, at3, ex_some, cut1, eqvS, eqvI, shS, shI, flatD, popget, emp_app, down0, down1, down2, down3, List.dropLast_concat, List.all_cons, List.all_nil, Bool.and_true, decide_eq_true_eq, isTy, isNone, startD, startF, List.map_cons, List.map_nil, List.length_cons, List.length_nil, List.nil_append, List.cons_append, List.replicate, List.getElem?_cons_zero, List.getElem?_cons_succ, List.getElem?_nil, List.set_cons_zero, List.set_cons_succ, List.set_nil, Nat.zero_add, Nat.reduceAdd, Nat.reduceSub, Nat.reduceLT, Nat.reduceLeDiff, Int.reduceAdd, Int.reduceSub, Int.toNat_natCast, if_true, if_false, ite_true, ite_false, Bool.false_eq_true, Bool.not_true, Bool.not_false, Bool.true_eq_false, true_and, and_true, Nat.sub_self, Nat.sub_zero, Nat.reduceMul, List.replicate_zero, List.append_nil])
      refine ⟨_, ((menu.length : Nat) : Int), rdr, by omega, by show _ < (1099511627776 : Int); omega, rfl, by omega, by omega, fun ra fsa ra0 ra1 rda => ?_⟩
      (simp (config := {maxSteps := 3000000}) only [↓dSeq, ↓dIfS, ↓dRet, ↓dRetN, ↓dAsg, ↓dAsgO, ↓dSet_eq, ↓sc_n, ↓sc_d, ↓sc_o, ↓sc_y, ↓dDrop, ↓dAsgG, ↓dPar2, ↓dPar3, ↓dPopAt, ↓dInsert, ↓dRevL, ↓dRevT, ↓bRepS, ↓dgTup, ↓dgCons, ↓dgName, ↓dgNil, ↓dNext, ↓dBreak, ↓dCont, ↓dVar, ↓dC, ↓dOp, ↓dTest, ↓dAnd, ↓dOr, ↓dNot, ↓dAndV, ↓dOrV, ↓dNotV, ↓dIf, ↓dIfL, ↓dNil, ↓dCons, ↓dTup, ↓dLst, ↓dFrz, ↓dCall, ↓dCallP_h, ↓dCallF_h, ↓dCallN_h, ↓hid_1, ↓dSeqOf, ↓dRange1, ↓dRange2, ↓dEnum, ↓dZip, ↓dForD, ↓forD, ↓dLcD, ↓dYes, ↓dAppend, ↓dPop, ↓dExtend, ↓dSetItem, ↓dTruO, ↓bInt, ↓bAdd, ↓bAddB, ↓dNeg, ↓bEq, ↓bNe, ↓bIs, ↓bIsNot, ↓bLt, ↓bLe, ↓bGt, ↓bGe, ↓bOrd, ↓dChain, ↓bIn, ↓bIx, ↓dIxO, ↓dLenO, ↓dNo, ↓dYesO, ↓dSlice, ↓SlD, ↓dIsi, ↓dIsi2, ↓cLen, ↓cAll, ↓cStr, ↓cInt, ↓cTuple, ↓dListOf, ↓dCat, ↓dJoin, ↓dFmt, ↓dJs, ↓dJoined, ↓dGetT, ↓dInT, ↓dRev1, ↓bRep, ↓q1_at, ↓q2_at, ↓q3_at, ↓popex, ↓atx0, ↓atx1, ↓atx2, ↓atx3, ↓reduceIte,
  wipeD, backD, isInt, cast_succ_ne, at0, at1, at2, at3, ex_some, cut1, eqvS, eqvI, shS, shI, flatD, popget, emp_app, down0, down1, down2, down3, List.dropLast_concat, List.all_cons, List.all_nil, Bool.and_true, decide_eq_true_eq, isTy, isNone, startD, startF, List.map_cons, List.map_nil, List.length_cons, List.length_nil, List.nil_append, List.cons_append, List.replicate, List.getElem?_cons_zero, List.getElem?_cons_succ, List.getElem?_nil, List.set_cons_zero, List.set_cons_succ, List.set_nil, Nat.zero_add, Nat.reduceAdd, Nat.reduceSub, Nat.reduceLT, Nat.reduceLeDiff, Int.reduceAdd, Int.reduceSub, Int.toNat_natCast, if_true, if_false, ite_true, ite_false, Bool.false_eq_true, Bool.not_true, Bool.not_false, Bool.true_eq_false, true_and, and_true, Nat.sub_self, Nat.sub_zero, Nat.reduceMul, List.replicate_zero, List.append_nil])
      obtain ⟨z, ez, mz⟩ := at_in ra0 ra1
      exact ⟨z, ez, fun es ee => by cases ee; exact h z fsa _ rda (by omega) (by omega) (ch_menu hm he mz)⟩
    · by_cases q1 : r = 1
      · subst q1
        (simp (config := {maxSteps := 3000000}) only [↓dSeq, ↓dIfS, ↓dRet, ↓dRetN, ↓dAsg, ↓dAsgO, ↓dSet_eq, ↓sc_n, ↓sc_d, ↓sc_o, ↓sc_y, ↓dDrop, ↓dAsgG, ↓dPar2, ↓dPar3, ↓dPopAt, ↓dInsert, ↓dRevL, ↓dRevT, ↓bRepS, ↓dgTup, ↓dgCons, ↓dgName, ↓dgNil, ↓dNext, ↓dBreak, ↓dCont, ↓dVar, ↓dC, ↓dOp, ↓dTest, ↓dAnd, ↓dOr, ↓dNot, ↓dAndV, ↓dOrV, ↓dNotV, ↓dIf, ↓dIfL, ↓dNil, ↓dCons, ↓dTup, ↓dLst, ↓dFrz, ↓dCall, ↓dCallP_h, ↓dCallF_h, ↓dCallN_h, ↓hid_1, ↓dSeqOf, ↓dRange1, ↓dRange2, ↓dEnum, ↓dZip, ↓dForD, ↓forD, ↓dLcD, ↓dYes, ↓dAppend, ↓dPop, ↓dExtend, ↓dSetItem, ↓dTruO, ↓bInt, ↓bAdd, ↓bAddB, ↓dNeg, ↓bEq, ↓bNe, ↓bIs, ↓bIsNot, ↓bLt, ↓bLe, ↓bGt, ↓bGe, ↓bOrd, ↓dChain, ↓bIn, ↓bIx, ↓dIxO, ↓dLenO, ↓dNo, ↓dYesO, ↓dSlice, ↓SlD, ↓dIsi, ↓dIsi2, ↓cLen, ↓cAll, ↓cStr, ↓cInt, ↓cTuple, ↓dListOf, ↓dCat, ↓dJoin, ↓dFmt, ↓dJs, ↓dJoined, ↓dGetT, ↓dInT, ↓dRev1, ↓bRep, ↓q1_at, ↓q2_at, ↓q3_at, ↓popex, ↓atx0, ↓atx1, ↓atx2, ↓atx3, ↓reduceIte,
  wipeD, backD, isInt, cast_succ_ne, at0, at1, at2, at3, ex_some, cut1, eqvS, eqvI, shS, shI, flatD, popget, emp_app, down0, down1, down2, down3, List.dropLast_concat, List.all_cons, List.all_nil, Bool.and_true, decide_eq_true_eq, isTy, isNone, startD, startF, List.map_cons, List.map_nil, List.length_cons, List.length_nil, List.nil_append, List.cons_append, List.replicate, List.getElem?_cons_zero, List.getElem?_cons_succ, List.getElem?_nil, List.set_cons_zero, List.set_cons_succ, List.set_nil, Nat.zero_add, Nat.reduceAdd, Nat.reduceSub, Nat.reduceLT, Nat.reduceLeDiff, Int.reduceAdd, Int.reduceSub, Int.toNat_natCast, if_true, if_false, ite_true, ite_false, Bool.false_eq_true, Bool.not_true, Bool.not_false, Bool.true_eq_false, true_and, and_true, Nat.sub_self, Nat.sub_zero, Nat.reduceMul, List.replicate_zero, List.append_nil])
        refine ⟨_, 2, rdr, by omega, by show _ < (1099511627776 : Int); omega, rfl, by decide, by decide, fun s fss s0 s1 rds => ?_⟩
        have hs : s = 0 ∨ s = 1 := by omega
        rcases hs with rfl | rfl
        · (simp (config := {maxSteps := 3000000}) only [↓dSeq, ↓dIfS, ↓dRet, ↓dRetN, ↓dAsg, ↓dAsgO, ↓dSet_eq, ↓sc_n, ↓sc_d, ↓sc_o, ↓sc_y, ↓dDrop, ↓dAsgG, ↓dPar2, ↓dPar3, ↓dPopAt, ↓dInsert, ↓dRevL, ↓dRevT, ↓bRepS, ↓dgTup, ↓dgCons, ↓dgName, ↓dgNil, ↓dNext, ↓dBreak, ↓dCont, ↓dVar, ↓dC, ↓dOp, ↓dTest, ↓dAnd, ↓dOr, ↓dNot, ↓dAndV, ↓dOrV, ↓dNotV, ↓dIf, ↓dIfL, ↓dNil, ↓dCons, ↓dTup, ↓dLst, ↓dFrz, ↓dCall, ↓dCallP_h, ↓dCallF_h, ↓dCallN_h, ↓hid_1, ↓dSeqOf, ↓dRange1, ↓dRange2, ↓dEnum, ↓dZip, ↓dForD, ↓forD, ↓dLcD, ↓dYes, ↓dAppend, ↓dPop, ↓dExtend, ↓dSetItem, ↓dTruO, ↓bInt, ↓bAdd, ↓bAddB, ↓dNeg, ↓bEq, ↓bNe, ↓bIs, ↓bIsNot, ↓bLt, ↓bLe, ↓bGt, ↓bGe, ↓bOrd, ↓dChain, ↓bIn, ↓bIx, ↓dIxO, ↓dLenO, ↓dNo, ↓dYesO, ↓dSlice, ↓SlD, ↓dIsi, ↓dIsi2, ↓cLen, ↓cAll, ↓cStr, ↓cInt, ↓cTuple, ↓dListOf, ↓dCat, ↓dJoin, ↓dFmt, ↓dJs, ↓dJoined, ↓dGetT, ↓dInT, ↓dRev1, ↓bRep, ↓q1_at, ↓q2_at, ↓q3_at, ↓popex, ↓atx0, ↓atx1, ↓atx2, ↓atx3, ↓reduceIte,
  wipeD, backD, isInt, cast_succ_ne, at0, at1, at2, at3, ex_some, cut1, eqvS, eqvI, shS, shI, flatD, popget, emp_app, down0, down1, down2, down3, List.dropLast_concat, List.all_cons, List.all_nil, Bool.and_true, decide_eq_true_eq, isTy, isNone, startD, startF, List.map_cons, List.map_nil, List.length_cons, List.length_nil, List.nil_append, List.cons_append, List.replicate, List.getElem?_cons_zero, List.getElem?_cons_succ, List.getElem?_nil, List.set_cons_zero, List.set_cons_succ, List.set_nil, Nat.zero_add, Nat.reduceAdd, Nat.reduceSub, Nat.reduceLT, Nat.reduceLeDiff, Int.reduceAdd, Int.reduceSub, Int.toNat_natCast, if_true, if_false, ite_true, ite_false, Bool.false_eq_true, Bool.not_true, Bool.not_false, Bool.true_eq_false, true_and, and_true, Nat.sub_self, Nat.sub_zero, Nat.reduceMul, List.replicate_zero, List.append_nil])
          exact fun es ee => by cases ee; exact h _ fss _ rds (by omega) (by omega) (ch_bool he (by cases b <;> decide))
        · (simp (config := {maxSteps := 3000000}) only [↓dSeq, ↓dIfS, ↓dRet, ↓dRetN, ↓dAsg, ↓dAsgO, ↓dSet_eq, ↓sc_n, ↓sc_d, ↓sc_o, ↓sc_y, ↓dDrop, ↓dAsgG, ↓dPar2, ↓dPar3, ↓dPopAt, ↓dInsert, ↓dRevL, ↓dRevT, ↓bRepS, ↓dgTup, ↓dgCons, ↓dgName, ↓dgNil, ↓dNext, ↓dBreak, ↓dCont, ↓dVar, ↓dC, ↓dOp, ↓dTest, ↓dAnd, ↓dOr, ↓dNot, ↓dAndV, ↓dOrV, ↓dNotV, ↓dIf, ↓dIfL, ↓dNil, ↓dCons, ↓dTup, ↓dLst, ↓dFrz, ↓dCall, ↓dCallP_h, ↓dCallF_h, ↓dCallN_h, ↓hid_1, ↓dSeqOf, ↓dRange1, ↓dRange2, ↓dEnum, ↓dZip, ↓dForD, ↓forD, ↓dLcD, ↓dYes, ↓dAppend, ↓dPop, ↓dExtend, ↓dSetItem, ↓dTruO, ↓bInt, ↓bAdd, ↓bAddB, ↓dNeg, ↓bEq, ↓bNe, ↓bIs, ↓bIsNot, ↓bLt, ↓bLe, ↓bGt, ↓bGe, ↓bOrd, ↓dChain, ↓bIn, ↓bIx, ↓dIxO, ↓dLenO, ↓dNo, ↓dYesO, ↓dSlice, ↓SlD, ↓dIsi, ↓dIsi2, ↓cLen, ↓cAll, ↓cStr, ↓cInt, ↓cTuple, ↓dListOf, ↓dCat, ↓dJoin, ↓dFmt, ↓dJs, ↓dJoined, ↓dGetT, ↓dInT, ↓dRev1, ↓bRep, ↓q1_at, ↓q2_at, ↓q3_at, ↓popex, ↓atx0, ↓atx1, ↓atx2, ↓atx3, ↓reduceIte,
  wipeD, backD, isInt, cast_succ_ne, at0, at1, at2, at3, ex_some, cut1, eqvS, eqvI, shS, shI, flatD, popget, emp_app, down0, down1, down2, down3, List.dropLast_concat, List.all_cons, List.all_nil, Bool.and_true, decide_eq_true_eq, isTy, isNone, startD, startF, List.map_cons, List.map_nil, List.length_cons, List.length_nil, List.nil_append, List.cons_append, List.replicate, List.getElem?_cons_zero, List.getElem?_cons_succ, List.getElem?_nil, List.set_cons_zero, List.set_cons_succ, List.set_nil, Nat.zero_add, Nat.reduceAdd, Nat.reduceSub, Nat.reduceLT, Nat.reduceLeDiff, Int.reduceAdd, Int.reduceSub, Int.toNat_natCast, if_true, if_false, ite_true, ite_false, Bool.false_eq_true, Bool.not_true, Bool.not_false, Bool.true_eq_false, true_and, and_true, Nat.sub_self, Nat.sub_zero, Nat.reduceMul, List.replicate_zero, List.append_nil])
          exact fun es ee => by cases ee; exact h _ fss _ rds (by omega) (by omega) (ch_bool he (by cases b <;> decide))
      · (simp (config := {maxSteps := 3000000}) only [q0, q1, ↓dSeq, ↓dIfS, ↓dRet, ↓dRetN, ↓dAsg, ↓dAsgO, ↓dSet_eq, ↓sc_n, ↓sc_d, ↓sc_o, ↓sc_y, ↓dDrop, ↓dAsgG, ↓dPar2, ↓dPar3, ↓dPopAt, ↓dInsert, ↓dRevL, ↓dRevT, ↓bRepS, ↓dgTup, ↓dgCons, ↓dgName, ↓dgNil, ↓dNext, ↓dBreak, ↓dCont, ↓dVar, ↓dC, ↓dOp, ↓dTest, ↓dAnd, ↓dOr, ↓dNot, ↓dAndV, ↓dOrV, ↓dNotV, ↓dIf, ↓dIfL, ↓dNil, ↓dCons, ↓dTup, ↓dLst, ↓dFrz, ↓dCall, ↓dCallP_h, ↓dCallF_h, ↓dCallN_h, ↓hid_1, ↓dSeqOf, ↓dRange1, ↓dRange2, ↓dEnum, ↓dZip, ↓dForD, ↓forD, ↓dLcD, ↓dYes, ↓dAppend, ↓dPop, ↓dExtend, ↓dSetItem, ↓dTruO, ↓bInt, ↓bAdd, ↓bAddB, ↓dNeg, ↓bEq, ↓bNe, ↓bIs, ↓bIsNot, ↓bLt, ↓bLe, ↓bGt, ↓bGe, ↓bOrd, ↓dChain, ↓bIn, ↓bIx, ↓dIxO, ↓dLenO, ↓dNo, ↓dYesO, ↓dSlice, ↓SlD, ↓dIsi, ↓dIsi2, ↓cLen, ↓cAll, ↓cStr, ↓cInt, ↓cTuple, ↓dListOf, ↓dCat, ↓dJoin, ↓dFmt, ↓dJs, ↓dJoined, ↓dGetT, ↓dInT, ↓dRev1, ↓bRep, ↓q1_at, ↓q2_at, ↓q3_at, ↓popex, ↓atx0, ↓atx1, ↓atx2, ↓atx3, ↓reduceIte,
  wipeD, backD, isInt, cast_succ_ne, at0, at1, at2, at3, ex_some, cut1, eqvS, eqvI, shS, shI, flatD, popget, emp_app, down0, down1, down2, down3, List.dropLast_concat, List.all_cons, List.all_nil, Bool.and_true, decide_eq_true_eq, isTy, isNone, startD, startF, List.map_cons, List.map_nil, List.length_cons, List.length_nil, List.nil_append, List.cons_append, List.replicate, List.getElem?_cons_zero, List.getElem?_cons_succ, List.getElem?_nil, List.set_cons_zero, List.set_cons_succ, List.set_nil, Nat.zero_add, Nat.reduceAdd, Nat.reduceSub, Nat.reduceLT, Nat.reduceLeDiff, Int.reduceAdd, Int.reduceSub, Int.toNat_natCast, if_true, if_false, ite_true, ite_false, Bool.false_eq_true, Bool.not_true, Bool.not_false, Bool.true_eq_false, true_and, and_true, Nat.sub_self, Nat.sub_zero, Nat.reduceMul, List.replicate_zero, List.append_nil])
        refine ⟨_, ((menu.length : Nat) : Int), rdr, by omega, by show _ < (1099511627776 : Int); omega, rfl, by omega, by omega, fun ra fsa ra0 ra1 rda => ?_⟩
        (simp (config := {maxSteps := 3000000}) only [↓dSeq, ↓dIfS, ↓dRet, ↓dRetN, ↓dAsg, ↓dAsgO, ↓dSet_eq, ↓sc_n, ↓sc_d, ↓sc_o, ↓sc_y, ↓dDrop, ↓dAsgG, ↓dPar2, ↓dPar3, ↓dPopAt, ↓dInsert, ↓dRevL, ↓dRevT, ↓bRepS, ↓dgTup, ↓dgCons, ↓dgName, ↓dgNil, ↓dNext, ↓dBreak, ↓dCont, ↓dVar, ↓dC, ↓dOp, ↓dTest, ↓dAnd, ↓dOr, ↓dNot, ↓dAndV, ↓dOrV, ↓dNotV, ↓dIf, ↓dIfL, ↓dNil, ↓dCons, ↓dTup, ↓dLst, ↓dFrz, ↓dCall, ↓dCallP_h, ↓dCallF_h, ↓dCallN_h, ↓hid_1, ↓dSeqOf, ↓dRange1, ↓dRange2, ↓dEnum, ↓dZip, ↓dForD, ↓forD, ↓dLcD, ↓dYes, ↓dAppend, ↓dPop, ↓dExtend, ↓dSetItem, ↓dTruO, ↓bInt, ↓bAdd, ↓bAddB, ↓dNeg, ↓bEq, ↓bNe, ↓bIs, ↓bIsNot, ↓bLt, ↓bLe, ↓bGt, ↓bGe, ↓bOrd, ↓dChain, ↓bIn, ↓bIx, ↓dIxO, ↓dLenO, ↓dNo, ↓dYesO, ↓dSlice, ↓SlD, ↓dIsi, ↓dIsi2, ↓cLen, ↓cAll, ↓cStr, ↓cInt, ↓cTuple, ↓dListOf, ↓dCat, ↓dJoin, ↓dFmt, ↓dJs, ↓dJoined, ↓dGetT, ↓dInT, ↓dRev1, ↓bRep, ↓q1_at, ↓q2_at, ↓q3_at, ↓popex, ↓atx0, ↓atx1, ↓atx2, ↓atx3, ↓reduceIte,
  wipeD, backD, isInt, cast_succ_ne, at0, at1, at2, at3, ex_some, cut1, eqvS, eqvI, shS, shI, flatD, popget, emp_app, down0, down1, down2, down3, List.dropLast_concat, List.all_cons, List.all_nil, Bool.and_true, decide_eq_true_eq, isTy, isNone, startD, startF, List.map_cons, List.map_nil, List.length_cons, List.length_nil, List.nil_append, List.cons_append, List.replicate, List.getElem?_cons_zero, List.getElem?_cons_succ, List.getElem?_nil, List.set_cons_zero, List.set_cons_succ, List.set_nil, Nat.zero_add, Nat.reduceAdd, Nat.reduceSub, Nat.reduceLT, Nat.reduceLeDiff, Int.reduceAdd, Int.reduceSub, Int.toNat_natCast, if_true, if_false, ite_true, ite_false, Bool.false_eq_true, Bool.not_true, Bool.not_false, Bool.true_eq_false, true_and, and_true, Nat.sub_self, Nat.sub_zero, Nat.reduceMul, List.replicate_zero, List.append_nil])
        obtain ⟨z, ez, mz⟩ := at_in ra0 ra1
        exact ⟨z, ez, fun es ee => by cases ee; exact h z fsa _ rda (by omega) (by omega) (ch_menu hm he mz)⟩
  | int i =>
    walk_at "st T1c"
    (simp (config := {maxSteps := 3000000}) only [Bool.or_self, ↓dSeq, ↓dIfS, ↓dRet, ↓dRetN, ↓dAsg, ↓dAsgO, ↓dSet_eq, ↓sc_n, ↓sc_d, ↓sc_o, ↓sc_y, ↓dDrop, ↓dAsgG, ↓dPar2, ↓dPar3, ↓dPopAt, ↓dInsert, ↓dRevL, ↓dRevT, ↓bRepS, ↓dgTup, ↓dgCons, ↓dgName, ↓dgNil, ↓dNext, ↓dBreak, ↓dCont, ↓dVar, ↓dC, ↓dOp, ↓dTest, ↓dAnd, ↓dOr, ↓dNot, ↓dAndV, ↓dOrV, ↓dNotV, ↓dIf, ↓dIfL, ↓dNil, ↓dCons, ↓dTup, ↓dLst, ↓dFrz, ↓dCall, ↓dCallP_h, ↓dCallF_h, ↓dCallN_h, ↓hid_1, ↓dSeqOf, ↓dRange1, ↓dRange2, ↓dEnum, ↓dZip, ↓dForD, ↓forD, ↓dLcD, ↓dYes, ↓dAppend, ↓dPop, ↓dExtend, ↓dSetItem, ↓dTruO, ↓bInt, ↓bAdd, ↓bAddB, ↓dNeg, ↓bEq, ↓bNe, ↓bIs, ↓bIsNot, ↓bLt, ↓bLe, ↓bGt, ↓bGe, ↓bOrd, ↓dChain, ↓bIn, ↓bIx, ↓dIxO, ↓dLenO, ↓dNo, ↓dYesO, ↓dSlice, ↓SlD, ↓dIsi, ↓dIsi2, ↓cLen, ↓cAll, ↓cStr, ↓cInt, ↓cTuple, ↓dListOf, ↓dCat, ↓dJoin, ↓dFmt, ↓dJs, ↓dJoined, ↓dGetT, ↓dInT, ↓dRev1, ↓bRep, ↓q1_at, ↓q2_at, ↓q3_at, ↓popex, ↓atx0, ↓atx1, ↓atx2, ↓atx3, ↓reduceIte,
  wipeD, backD, isInt, cast_succ_ne, at0, at1, at2, at3, ex_some, cut1, eqvS, eqvI, shS, shI, flatD, popget, emp_app, down0, down1, down2, down3, List.dropLast_concat, List.all_cons, List.all_nil, Bool.and_true, decide_eq_true_eq, isTy, isNone, startD, startF, List.map_cons, List.map_nil, List.length_cons, List.length_nil, List.nil_append, List.cons_append, List.replicate, List.getElem?_cons_zero, List.getElem?_cons_succ, List.getElem?_nil, List.set_cons_zero, List.set_cons_succ, List.set_nil, Nat.zero_add, Nat.reduceAdd, Nat.reduceSub, Nat.reduceLT, Nat.reduceLeDiff, Int.reduceAdd, Int.reduceSub, Int.toNat_natCast, if_true, if_false, ite_true, ite_false, Bool.false_eq_true, Bool.not_true, Bool.not_false, Bool.true_eq_false, true_and, and_true, Nat.sub_self, Nat.sub_zero, Nat.reduceMul, List.replicate_zero, List.append_nil])
    refine ⟨_, 4, rd, by omega, by show _ < (1099511627776 : Int); omega, rfl, by decide, by decide, fun r fsr r0 r1 rdr => ?_⟩
    by_cases q0 : r = 0
    · subst q0
      (simp (config := {maxSteps := 3000000}) only [↓dSeq, ↓dIfS, ↓dRet, ↓dRetN, ↓dAsg, ↓dAsgO, ↓dSet_eq, ↓sc_n, ↓sc_d, ↓sc_o, ↓sc_y, ↓dDrop, ↓dAsgG, ↓dPar2, ↓dPar3, ↓dPopAt, ↓dInsert, ↓dRevL, ↓dRevT, ↓bRepS, ↓dgTup, ↓dgCons, ↓dgName, ↓dgNil, ↓dNext, ↓dBreak, ↓dCont, ↓dVar, ↓dC, ↓dOp, ↓dTest, ↓dAnd, ↓dOr, ↓dNot, ↓dAndV, ↓dOrV, ↓dNotV, ↓dIf, ↓dIfL, ↓dNil, ↓dCons, ↓dTup, ↓dLst, ↓dFrz, ↓dCall, ↓dCallP_h, ↓dCallF_h, ↓dCallN_h, ↓hid_1, ↓dSeqOf, ↓dRange1, ↓dRange2, ↓dEnum, ↓dZip, ↓dForD, ↓forD, ↓dLcD, ↓dYes, ↓dAppend, ↓dPop, ↓dExtend, ↓dSetItem, ↓dTruO, ↓bInt, ↓bAdd, ↓bAddB, ↓dNeg, ↓bEq, ↓bNe, ↓bIs, ↓bIsNot, ↓bLt, ↓bLe, ↓bGt, ↓bGe, ↓bOrd, ↓dChain, ↓bIn, ↓bIx, ↓dIxO, ↓dLenO, ↓dNo, ↓dYesO, ↓dSlice, ↓SlD, ↓dIsi, ↓dIsi2, ↓cLen, ↓cAll, ↓cStr, ↓cInt, ↓cTuple, ↓dListOf, ↓dCat, ↓dJoin, ↓dFmt, ↓dJs, ↓dJoined, ↓dGetT, ↓dInT, ↓dRev1, ↓bRep, ↓q1_at, ↓q2_at, ↓q3_at, ↓popex, ↓atx0, ↓atx1, ↓atx2, ↓atx3, ↓reduceIte,
  wipeD, backD, isInt, cast_succ_ne, at0, at1, at2, at3, ex_some, cut1, eqvS, eqvI, shS, shI, flatD, popget, emp_app, down0, down1, down2, down3, List.dropLast_concat, List.all_cons, List.all_nil, Bool.and_true, decide_eq_true_eq, isTy, isNone, startD, startF, List.map_cons, List.map_nil, List.length_cons, List.length_nil, List.nil_append, List.cons_append, List.replicate, List.getElem?_cons_zero, List.getElem?_cons_succ, List.getElem?_nil, List.set_cons_zero, List.set_cons_succ, List.set_nil, Nat.zero_add, Nat.reduceAdd, Nat.reduceSub, Nat.reduceLT, Nat.reduceLeDiff, Int.reduceAdd, Int.reduceSub, Int.toNat_natCast, if_true, if_false, ite_true, ite_false, Bool.false_eq_true, Bool.not_true, Bool.not_false, Bool.true_eq_false, true_and, and_true, Nat.sub_self, Nat.sub_zero, Nat.reduceMul, List.replicate_zero, List.append_nil])
      refine ⟨_, ((menu.length : Nat) : Int), rdr, by omega, by show _ < (1099511627776 : Int); omega, rfl, by omega, by omega, fun ra fsa ra0 ra1 rda => ?_⟩
      (simp (config := {maxSteps := 3000000}) only [↓dSeq, ↓dIfS, ↓dRet, ↓dRetN, ↓dAsg, ↓dAsgO, ↓dSet_eq, ↓sc_n, ↓sc_d, ↓sc_o, ↓sc_y, ↓dDrop, ↓dAsgG, ↓dPar2, ↓dPar3, ↓dPopAt, ↓dInsert, ↓dRevL, ↓dRevT, ↓bRepS, ↓dgTup, ↓dgCons, ↓dgName, ↓dgNil, ↓dNext, ↓dBreak, ↓dCont, ↓dVar, ↓dC, ↓dOp, ↓dTest, ↓dAnd, ↓dOr, ↓dNot, ↓dAndV, ↓dOrV, ↓dNotV, ↓dIf, ↓dIfL, ↓dNil, ↓dCons, ↓dTup, ↓dLst, ↓dFrz, ↓dCall, ↓dCallP_h, ↓dCallF_h, ↓dCallN_h, ↓hid_1, ↓dSeqOf, ↓dRange1, ↓dRange2, ↓dEnum, ↓dZip, ↓dForD, ↓forD, ↓dLcD, ↓dYes, ↓dAppend, ↓dPop, ↓dExtend, ↓dSetItem, ↓dTruO, ↓bInt, ↓bAdd, ↓bAddB, ↓dNeg, ↓bEq, ↓bNe, ↓bIs, ↓bIsNot, ↓bLt, ↓bLe, ↓bGt, ↓bGe, ↓bOrd, ↓dChain, ↓bIn, ↓bIx, ↓dIxO, ↓dLenO, ↓dNo, ↓dYesO, ↓dSlice, ↓SlD, ↓dIsi, ↓dIsi2, ↓cLen, ↓cAll, ↓cStr, ↓cInt, ↓cTuple, ↓dListOf, ↓dCat, ↓dJoin, ↓dFmt, ↓dJs, ↓dJoined, ↓dGetT, ↓dInT, ↓dRev1, ↓bRep, ↓q1_at, ↓q2_at, ↓q3_at, ↓popex, ↓atx0, ↓atx1, ↓atx2, ↓atx3, ↓reduceIte,
  wipeD, backD, isInt, cast_succ_ne, at0, at1, at2, at3, ex_some, cut1, eqvS, eqvI, shS, shI, flatD, popget, emp_app, down0, down1, down2, down3, List.dropLast_concat, List.all_cons, List.all_nil, Bool.and_true, decide_eq_true_eq, isTy, isNone, startD, startF, List.map_cons, List.map_nil, List.length_cons, List.length_nil, List.nil_append, List.cons_append, List.replicate, List.getElem?_cons_zero, List.getElem?_cons_succ, List.getElem?_nil, List.set_cons_zero, List.set_cons_succ, List.set_nil, Nat.zero_add, Nat.reduceAdd, Nat.reduceSub, Nat.reduceLT, Nat.reduceLeDiff, Int.reduceAdd, Int.reduceSub, Int.toNat_natCast, if_true, if_false, ite_true, ite_false, Bool.false_eq_true, Bool.not_true, Bool.not_false, Bool.true_eq_false, true_and, and_true, Nat.sub_self, Nat.sub_zero, Nat.reduceMul, List.replicate_zero, List.append_nil])
      obtain ⟨z, ez, mz⟩ := at_in ra0 ra1
      exact ⟨z, ez, fun es ee => by cases ee; exact h z fsa _ rda (by omega) (by omega) (ch_menu hm he mz)⟩
    · by_cases q1 : r = 1
      · subst q1
        (simp (config := {maxSteps := 3000000}) only [↓dSeq, ↓dIfS, ↓dRet, ↓dRetN, ↓dAsg, ↓dAsgO, ↓dSet_eq, ↓sc_n, ↓sc_d, ↓sc_o, ↓sc_y, ↓dDrop, ↓dAsgG, ↓dPar2, ↓dPar3, ↓dPopAt, ↓dInsert, ↓dRevL, ↓dRevT, ↓bRepS, ↓dgTup, ↓dgCons, ↓dgName, ↓dgNil, ↓dNext, ↓dBreak, ↓dCont, ↓dVar, ↓dC, ↓dOp, ↓dTest, ↓dAnd, ↓dOr, ↓dNot, ↓dAndV, ↓dOrV, ↓dNotV, ↓dIf, ↓dIfL, ↓dNil, ↓dCons, ↓dTup, ↓dLst, ↓dFrz, ↓dCall, ↓dCallP_h, ↓dCallF_h, ↓dCallN_h, ↓hid_1, ↓dSeqOf, ↓dRange1, ↓dRange2, ↓dEnum, ↓dZip, ↓dForD, ↓forD, ↓dLcD, ↓dYes, ↓dAppend, ↓dPop, ↓dExtend, ↓dSetItem, ↓dTruO, ↓bInt, ↓bAdd, ↓bAddB, ↓dNeg, ↓bEq, ↓bNe, ↓bIs, ↓bIsNot, ↓bLt, ↓bLe, ↓bGt, ↓bGe, ↓bOrd, ↓dChain, ↓bIn, ↓bIx, ↓dIxO, ↓dLenO, ↓dNo, ↓dYesO, ↓dSlice, ↓SlD, ↓dIsi, ↓dIsi2, ↓cLen, ↓cAll, ↓cStr, ↓cInt, ↓cTuple, ↓dListOf, ↓dCat, ↓dJoin, ↓dFmt, ↓dJs, ↓dJoined, ↓dGetT, ↓dInT, ↓dRev1, ↓bRep, ↓q1_at, ↓q2_at, ↓q3_at, ↓popex, ↓atx0, ↓atx1, ↓atx2, ↓atx3, ↓reduceIte,
  wipeD, backD, isInt, cast_succ_ne, at0, at1, at2, at3, ex_some, cut1, eqvS, eqvI, shS, shI, flatD, popget, emp_app, down0, down1, down2, down3, List.dropLast_concat, List.all_cons, List.all_nil, Bool.and_true, decide_eq_true_eq, isTy, isNone, startD, startF, List.map_cons, List.map_nil, List.length_cons, List.length_nil, List.nil_append, List.cons_append, List.replicate, List.getElem?_cons_zero, List.getElem?_cons_succ, List.getElem?_nil, List.set_cons_zero, List.set_cons_succ, List.set_nil, Nat.zero_add, Nat.reduceAdd, Nat.reduceSub, Nat.reduceLT, Nat.reduceLeDiff, Int.reduceAdd, Int.reduceSub, Int.toNat_natCast, if_true, if_false, ite_true, ite_false, Bool.false_eq_true, Bool.not_true, Bool.not_false, Bool.true_eq_false, true_and, and_true, Nat.sub_self, Nat.sub_zero, Nat.reduceMul, List.replicate_zero, List.append_nil])
        refine ⟨_, 2, rdr, by omega, by show _ < (1099511627776 : Int); omega, rfl, by decide, by decide, fun s fss s0 s1 rds => ?_⟩
        have hs : s = 0 ∨ s = 1 := by omega
        rcases hs with rfl | rfl
        · (simp (config := {maxSteps := 3000000}) only [↓dSeq, ↓dIfS, ↓dRet, ↓dRetN, ↓dAsg, ↓dAsgO, ↓dSet_eq, ↓sc_n, ↓sc_d, ↓sc_o, ↓sc_y, ↓dDrop, ↓dAsgG, ↓dPar2, ↓dPar3, ↓dPopAt, ↓dInsert, ↓dRevL, ↓dRevT, ↓bRepS, ↓dgTup, ↓dgCons, ↓dgName, ↓dgNil, ↓dNext, ↓dBreak, ↓dCont, ↓dVar, ↓dC, ↓dOp, ↓dTest, ↓dAnd, ↓dOr, ↓dNot, ↓dAndV, ↓dOrV, ↓dNotV, ↓dIf, ↓dIfL, ↓dNil, ↓dCons, ↓dTup, ↓dLst, ↓dFrz, ↓dCall, ↓dCallP_h, ↓dCallF_h, ↓dCallN_h, ↓hid_1, ↓dSeqOf, ↓dRange1, ↓dRange2, ↓dEnum, ↓dZip, ↓dForD, ↓forD, ↓dLcD, ↓dYes, ↓dAppend, ↓dPop, ↓dExtend, ↓dSetItem, ↓dTruO, ↓bInt, ↓bAdd, ↓bAddB, ↓dNeg, ↓bEq, ↓bNe, ↓bIs, ↓bIsNot, ↓bLt, ↓bLe, ↓bGt, ↓bGe, ↓bOrd, ↓dChain, ↓bIn, ↓bIx, ↓dIxO, ↓dLenO, ↓dNo, ↓dYesO, ↓dSlice, ↓SlD, ↓dIsi, ↓dIsi2, ↓cLen, ↓cAll, ↓cStr, ↓cInt, ↓cTuple, ↓dListOf, ↓dCat, ↓dJoin, ↓dFmt, ↓dJs, ↓dJoined, ↓dGetT, ↓dInT, ↓dRev1, ↓bRep, ↓q1_at, ↓q2_at, ↓q3_at, ↓popex, ↓atx0, ↓atx1, ↓atx2, ↓atx3, ↓reduceIte,
  wipeD, backD, isInt, cast_succ_ne, at0, at1, at2, at3, ex_some, cut1, eqvS, eqvI, shS, shI, flatD, popget, emp_app, down0, down1, down2, down3, List.dropLast_concat, List.all_cons, List.all_nil, Bool.and_true, decide_eq_true_eq, isTy, isNone, startD, startF, List.map_cons, List.map_nil, List.length_cons, List.length_nil, List.nil_append, List.cons_append, List.replicate, List.getElem?_cons_zero, List.getElem?_cons_succ, List.getElem?_nil, List.set_cons_zero, List.set_cons_succ, List.set_nil, Nat.zero_add, Nat.reduceAdd, Nat.reduceSub, Nat.reduceLT, Nat.reduceLeDiff, Int.reduceAdd, Int.reduceSub, Int.toNat_natCast, if_true, if_false, ite_true, ite_false, Bool.false_eq_true, Bool.not_true, Bool.not_false, Bool.true_eq_false, true_and, and_true, Nat.sub_self, Nat.sub_zero, Nat.reduceMul, List.replicate_zero, List.append_nil])
          exact fun es ee => by cases ee; exact h _ fss _ rds (by omega) (by omega) (ch_int ok (by omega))
        · (simp (config := {maxSteps := 3000000}) only [↓dSeq, ↓dIfS, ↓dRet, ↓dRetN, ↓dAsg, ↓dAsgO, ↓dSet_eq, ↓sc_n, ↓sc_d, ↓sc_o, ↓sc_y, ↓dDrop, ↓dAsgG, ↓dPar2, ↓dPar3, ↓dPopAt, ↓dInsert, ↓dRevL, ↓dRevT, ↓bRepS, ↓dgTup, ↓dgCons, ↓dgName, ↓dgNil, ↓dNext, ↓dBreak, ↓dCont, ↓dVar, ↓dC, ↓dOp, ↓dTest, ↓dAnd, ↓dOr, ↓dNot, ↓dAndV, ↓dOrV, ↓dNotV, ↓dIf, ↓dIfL, ↓dNil, ↓dCons, ↓dTup, ↓dLst, ↓dFrz, ↓dCall, ↓dCallP_h, ↓dCallF_h, ↓dCallN_h, ↓hid_1, ↓dSeqOf, ↓dRange1, ↓dRange2, ↓dEnum, ↓dZip, ↓dForD, ↓forD, ↓dLcD, ↓dYes, ↓dAppend, ↓dPop, ↓dExtend, ↓dSetItem, ↓dTruO, ↓bInt, ↓bAdd, ↓bAddB, ↓dNeg, ↓bEq, ↓bNe, ↓bIs, ↓bIsNot, ↓bLt, ↓bLe, ↓bGt, ↓bGe, ↓bOrd, ↓dChain, ↓bIn, ↓bIx, ↓dIxO, ↓dLenO, ↓dNo, ↓dYesO, ↓dSlice, ↓SlD, ↓dIsi, ↓dIsi2, ↓cLen, ↓cAll, ↓cStr, ↓cInt, ↓cTuple, ↓dListOf, ↓dCat, ↓dJoin, ↓dFmt, ↓dJs, ↓dJoined, ↓dGetT, ↓dInT, ↓dRev1, ↓bRep, ↓q1_at, ↓q2_at, ↓q3_at, ↓popex, ↓atx0, ↓atx1, ↓atx2, ↓atx3, ↓reduceIte,
  wipeD, backD, isInt, cast_succ_ne, at0, at1, at2, at3, ex_some, cut1, eqvS, eqvI, shS, shI, flatD, popget, emp_app, down0, down1, down2, down3, List.dropLast_concat, List.all_cons, List.all_nil, Bool.and_true, decide_eq_true_eq, isTy, isNone, startD, startF, List.map_cons, List.map_nil, List.length_cons, List.length_nil, List.nil_append, List.cons_append, List.replicate, List.getElem?_cons_zero, List.getElem?_cons_succ, List.getElem?_nil, List.set_cons_zero, List.set_cons_succ, List.set_nil, Nat.zero_add, Nat.reduceAdd, Nat.reduceSub, Nat.reduceLT, Nat.reduceLeDiff, Int.reduceAdd, Int.reduceSub, Int.toNat_natCast, if_true, if_false, ite_true, ite_false, Bool.false_eq_true, Bool.not_true, Bool.not_false, Bool.true_eq_false, true_and, and_true, Nat.sub_self, Nat.sub_zero, Nat.reduceMul, List.replicate_zero, List.append_nil])
          exact fun es ee => by cases ee; exact h _ fss _ rds (by omega) (by omega) (ch_int ok (by omega))
      · (simp (config := {maxSteps := 3000000}) only [q0, q1, ↓dSeq, ↓dIfS, ↓dRet, ↓dRetN, ↓dAsg, ↓dAsgO, ↓dSet_eq, ↓sc_n, ↓sc_d, ↓sc_o, ↓sc_y, ↓dDrop, ↓dAsgG, ↓dPar2, ↓dPar3, ↓dPopAt, ↓dInsert, ↓dRevL, ↓dRevT, ↓bRepS, ↓dgTup, ↓dgCons, ↓dgName, ↓dgNil, ↓dNext, ↓dBreak, ↓dCont, ↓dVar, ↓dC, ↓dOp, ↓dTest, ↓dAnd, ↓dOr, ↓dNot, ↓dAndV, ↓dOrV, ↓dNotV, ↓dIf, ↓dIfL, ↓dNil, ↓dCons, ↓dTup, ↓dLst, ↓dFrz, ↓dCall, ↓dCallP_h, ↓dCallF_h, ↓dCallN_h, ↓hid_1, ↓dSeqOf, ↓dRange1, ↓dRange2, ↓dEnum, ↓dZip, ↓dForD, ↓forD, ↓dLcD, ↓dYes, ↓dAppend, ↓dPop, ↓dExtend, ↓dSetItem, ↓dTruO, ↓bInt, ↓bAdd, ↓bAddB, ↓dNeg, ↓bEq, ↓bNe, ↓bIs, ↓bIsNot, ↓bLt, ↓bLe, ↓bGt, ↓bGe, ↓bOrd, ↓dChain, ↓bIn, ↓bIx, ↓dIxO, ↓dLenO, ↓dNo, ↓dYesO, ↓dSlice, ↓SlD, ↓dIsi, ↓dIsi2, ↓cLen, ↓cAll, ↓cStr, ↓cInt, ↓cTuple, ↓dListOf, ↓dCat, ↓dJoin, ↓dFmt, ↓dJs, ↓dJoined, ↓dGetT, ↓dInT, ↓dRev1, ↓bRep, ↓q1_at, ↓q2_at, ↓q3_at, ↓popex, ↓atx0, ↓atx1, ↓atx2, ↓atx3, ↓reduceIte,
  wipeD, backD, isInt, cast_succ_ne, at0, at1, at2, at3, ex_some, cut1, eqvS, eqvI, shS, shI, flatD, popget, emp_app, down0, down1, down2, down3, List.dropLast_concat, List.all_cons, List.all_nil, Bool.and_true, decide_eq_true_eq, isTy, isNone, startD, startF, List.map_cons, List.map_nil, List.length_cons, List.length_nil, List.nil_append, List.cons_append, List.replicate, List.getElem?_cons_zero, List.getElem?_cons_succ, List.getElem?_nil, List.set_cons_zero, List.set_cons_succ, List.set_nil, Nat.zero_add, Nat.reduceAdd, Nat.reduceSub, Nat.reduceLT, Nat.reduceLeDiff, Int.reduceAdd, Int.reduceSub, Int.toNat_natCast, if_true, if_false, ite_true, ite_false, Bool.false_eq_true, Bool.not_true, Bool.not_false, Bool.true_eq_false, true_and, and_true, Nat.sub_self, Nat.sub_zero, Nat.reduceMul, List.replicate_zero, List.append_nil])
        refine ⟨_, ((menu.length : Nat) : Int), rdr, by omega, by show _ < (1099511627776 : Int); omega, rfl, by omega, by omega, fun ra fsa ra0 ra1 rda => ?_⟩
        (simp (config := {maxSteps := 3000000}) only [↓dSeq, ↓dIfS, ↓dRet, ↓dRetN, ↓dAsg, ↓dAsgO, ↓dSet_eq, ↓sc_n, ↓sc_d, ↓sc_o, ↓sc_y, ↓dDrop, ↓dAsgG, ↓dPar2, ↓dPar3, ↓dPopAt, ↓dInsert, ↓dRevL, ↓dRevT, ↓bRepS, ↓dgTup, ↓dgCons, ↓dgName, ↓dgNil, ↓dNext, ↓dBreak, ↓dCont, ↓dVar, ↓dC, ↓dOp, ↓dTest, ↓dAnd, ↓dOr, ↓dNot, ↓dAndV, ↓dOrV, ↓dNotV, ↓dIf, ↓dIfL, ↓dNil, ↓dCons, ↓dTup, ↓dLst, ↓dFrz, ↓dCall, ↓dCallP_h, ↓dCallF_h, ↓dCallN_h, ↓hid_1, ↓dSeqOf, ↓dRange1, ↓dRange2, ↓dEnum, ↓dZip, ↓dForD, ↓forD, ↓dLcD, ↓dYes, ↓dAppend, ↓dPop, ↓dExtend, ↓dSetItem, ↓dTruO, ↓bInt, ↓bAdd, ↓bAddB, ↓dNeg, ↓bEq, ↓bNe, ↓bIs, ↓bIsNot, ↓bLt, ↓bLe, ↓bGt, ↓bGe, ↓bOrd, ↓dChain, ↓bIn, ↓bIx, ↓dIxO, ↓dLenO, ↓dNo, ↓dYesO, ↓dSlice, ↓SlD, ↓dIsi, ↓dIsi2, ↓cLen, ↓cAll, ↓cStr, ↓cInt, ↓cTuple, ↓dListOf, ↓dCat, ↓dJoin, ↓dFmt, ↓dJs, ↓dJoined, ↓dGetT, ↓dInT, ↓dRev1, ↓bRep, ↓q1_at, ↓q2_at, ↓q3_at, ↓popex, ↓atx0, ↓atx1, ↓atx2, ↓atx3, ↓reduceIte,
  wipeD, backD, isInt, cast_succ_ne, at0, at1, at2, at3, ex_some, cut1, eqvS, eqvI, shS, shI, flatD, popget, emp_app, down0, down1, down2, down3, List.dropLast_concat, List.all_cons, List.all_nil, Bool.and_true, decide_eq_true_eq, isTy, isNone, startD, startF, List.map_cons, List.map_nil, List.length_cons, List.length_nil, List.nil_append, List.cons_append, List.replicate, List.getElem?_cons_zero, List.getElem?_cons_succ, List.getElem?_nil, List.set_cons_zero, List.set_cons_succ, List.set_nil, Nat.zero_add, Nat.reduceAdd, Nat.reduceSub, Nat.reduceLT, Nat.reduceLeDiff, Int.reduceAdd, Int.reduceSub, Int.toNat_natCast, if_true, if_false, ite_true, ite_false, Bool.false_eq_true, Bool.not_true, Bool.not_false, Bool.true_eq_false, true_and, and_true, Nat.sub_self, Nat.sub_zero, Nat.reduceMul, List.replicate_zero, List.append_nil])
        obtain ⟨z, ez, mz⟩ := at_in ra0 ra1
        exact ⟨z, ez, fun es ee => by cases ee; exact h z fsa _ rda (by omega) (by omega) (ch_menu hm he mz)⟩
  | str x =>
    walk_at "st T1c"
    (simp (config := {maxSteps := 3000000}) only [Bool.or_self, ↓dSeq, ↓dIfS, ↓dRet, ↓dRetN, ↓dAsg, ↓dAsgO, ↓dSet_eq, ↓sc_n, ↓sc_d, ↓sc_o, ↓sc_y, ↓dDrop, ↓dAsgG, ↓dPar2, ↓dPar3, ↓dPopAt, ↓dInsert, ↓dRevL, ↓dRevT, ↓bRepS, ↓dgTup, ↓dgCons, ↓dgName, ↓dgNil, ↓dNext, ↓dBreak, ↓dCont, ↓dVar, ↓dC, ↓dOp, ↓dTest, ↓dAnd, ↓dOr, ↓dNot, ↓dAndV, ↓dOrV, ↓dNotV, ↓dIf, ↓dIfL, ↓dNil, ↓dCons, ↓dTup, ↓dLst, ↓dFrz, ↓dCall, ↓dCallP_h, ↓dCallF_h, ↓dCallN_h, ↓hid_1, ↓dSeqOf, ↓dRange1, ↓dRange2, ↓dEnum, ↓dZip, ↓dForD, ↓forD, ↓dLcD, ↓dYes, ↓dAppend, ↓dPop, ↓dExtend, ↓dSetItem, ↓dTruO, ↓bInt, ↓bAdd, ↓bAddB, ↓dNeg, ↓bEq, ↓bNe, ↓bIs, ↓bIsNot, ↓bLt, ↓bLe, ↓bGt, ↓bGe, ↓bOrd, ↓dChain, ↓bIn, ↓bIx, ↓dIxO, ↓dLenO, ↓dNo, ↓dYesO, ↓dSlice, ↓SlD, ↓dIsi, ↓dIsi2, ↓cLen, ↓cAll, ↓cStr, ↓cInt, ↓cTuple, ↓dListOf, ↓dCat, ↓dJoin, ↓dFmt, ↓dJs, ↓dJoined, ↓dGetT, ↓dInT, ↓dRev1, ↓bRep, ↓q1_at, ↓q2_at, ↓q3_at, ↓popex, ↓atx0, ↓atx1, ↓atx2, ↓atx3, ↓reduceIte,
  wipeD, backD, isInt, cast_succ_ne, at0, at1, at2, at3, ex_some, cut1, eqvS, eqvI, shS, shI, flatD, popget, emp_app, down0, down1, down2, down3, List.dropLast_concat, List.all_cons, List.all_nil, Bool.and_true, decide_eq_true_eq, isTy, isNone, startD, startF, List.map_cons, List.map_nil, List.length_cons, List.length_nil, List.nil_append, List.cons_append, List.replicate, List.getElem?_cons_zero, List.getElem?_cons_succ, List.getElem?_nil, List.set_cons_zero, List.set_cons_succ, List.set_nil, Nat.zero_add, Nat.reduceAdd, Nat.reduceSub, Nat.reduceLT, Nat.reduceLeDiff, Int.reduceAdd, Int.reduceSub, Int.toNat_natCast, if_true, if_false, ite_true, ite_false, Bool.false_eq_true, Bool.not_true, Bool.not_false, Bool.true_eq_false, true_and, and_true, Nat.sub_self, Nat.sub_zero, Nat.reduceMul, List.replicate_zero, List.append_nil])
    refine ⟨_, 4, rd, by omega, by show _ < (1099511627776 : Int); omega, rfl, by decide, by decide, fun r fsr r0 r1 rdr => ?_⟩
    by_cases q0 : r = 0
    · subst q0
      (simp (config := {maxSteps := 3000000}) only [↓dSeq, ↓dIfS, ↓dRet, ↓dRetN, ↓dAsg, ↓dAsgO, ↓dSet_eq, ↓sc_n, ↓sc_d, ↓sc_o, ↓sc_y, ↓dDrop, ↓dAsgG, ↓dPar2, ↓dPar3, ↓dPopAt, ↓dInsert, ↓dRevL, ↓dRevT, ↓bRepS, ↓dgTup, ↓dgCons, ↓dgName, ↓dgNil, ↓dNext, ↓dBreak, ↓dCont, ↓dVar, ↓dC, ↓dOp, ↓dTest, ↓dAnd, ↓dOr, ↓dNot, ↓dAndV, ↓dOrV, ↓dNotV, ↓dIf, ↓dIfL, ↓dNil, ↓dCons, ↓dTup, ↓dLst, ↓dFrz, ↓dCall, ↓dCallP_h, ↓dCallF_h, ↓dCallN_h, ↓hid_1, ↓dSeqOf, ↓dRange1, ↓dRange2, ↓dEnum, ↓dZip, ↓dForD, ↓forD, ↓dLcD, ↓dYes, ↓dAppend, ↓dPop, ↓dExtend, ↓dSetItem, ↓dTruO, ↓bInt, ↓bAdd, ↓bAddB, ↓dNeg, ↓bEq, ↓bNe, ↓bIs, ↓bIsNot, ↓bLt, ↓bLe, ↓bGt, ↓bGe, ↓bOrd, ↓dChain, ↓bIn, ↓bIx, ↓dIxO, ↓dLenO, ↓dNo, ↓dYesO, ↓dSlice, ↓SlD, ↓dIsi, ↓dIsi2, ↓cLen, ↓cAll, ↓cStr, ↓cInt, ↓cTuple, ↓dListOf, ↓dCat, ↓dJoin, ↓dFmt, ↓dJs, ↓dJoined, ↓dGetT, ↓dInT, ↓dRev1, ↓bRep, ↓q1_at, ↓q2_at, ↓q3_at, ↓popex, ↓atx0, ↓atx1, ↓atx2, ↓atx3, ↓reduceIte,
  wipeD, backD, isInt, cast_succ_ne, at0, at1, at2, at3, ex_some, cut1, eqvS, eqvI, shS, shI, flatD, popget, emp_app, down0, down1, down2, down3, List.dropLast_concat, List.all_cons, List.all_nil, Bool.and_true, decide_eq_true_eq, isTy, isNone, startD, startF, List.map_cons, List.map_nil, List.length_cons, List.length_nil, List.nil_append, List.cons_append, List.replicate, List.getElem?_cons_zero, List.getElem?_cons_succ, List.getElem?_nil, List.set_cons_zero, List.set_cons_succ, List.set_nil, Nat.zero_add, Nat.reduceAdd, Nat.reduceSub, Nat.reduceLT, Nat.reduceLeDiff, Int.reduceAdd, Int.reduceSub, Int.toNat_natCast, if_true, if_false, ite_true, ite_false, Bool.false_eq_true, Bool.not_true, Bool.not_false, Bool.true_eq_false, true_and, and_true, Nat.sub_self, Nat.sub_zero, Nat.reduceMul, List.replicate_zero, List.append_nil])
      refine ⟨_, ((menu.length : Nat) : Int), rdr, by omega, by show _ < (1099511627776 : Int); omega, rfl, by omega, by omega, fun ra fsa ra0 ra1 rda => ?_⟩
      (simp (config := {maxSteps := 3000000}) only [↓dSeq, ↓dIfS, ↓dRet, ↓dRetN, ↓dAsg, ↓dAsgO, ↓dSet_eq, ↓sc_n, ↓sc_d, ↓sc_o, ↓sc_y, ↓dDrop, ↓dAsgG, ↓dPar2, ↓dPar3, ↓dPopAt, ↓dInsert, ↓dRevL, ↓dRevT, ↓bRepS, ↓dgTup, ↓dgCons, ↓dgName, ↓dgNil, ↓dNext, ↓dBreak, ↓dCont, ↓dVar, ↓dC, ↓dOp, ↓dTest, ↓dAnd, ↓dOr, ↓dNot, ↓dAndV, ↓dOrV, ↓dNotV, ↓dIf, ↓dIfL, ↓dNil, ↓dCons, ↓dTup, ↓dLst, ↓dFrz, ↓dCall, ↓dCallP_h, ↓dCallF_h, ↓dCallN_h, ↓hid_1, ↓dSeqOf, ↓dRange1, ↓dRange2, ↓dEnum, ↓dZip, ↓dForD, ↓forD, ↓dLcD, ↓dYes, ↓dAppend, ↓dPop, ↓dExtend, ↓dSetItem, ↓dTruO, ↓bInt, ↓bAdd, ↓bAddB, ↓dNeg, ↓bEq, ↓bNe, ↓bIs, ↓bIsNot, ↓bLt, ↓bLe, ↓bGt, ↓bGe, ↓bOrd, ↓dChain, ↓bIn, ↓bIx, ↓dIxO, ↓dLenO, ↓dNo, ↓dYesO, ↓dSlice, ↓SlD, ↓dIsi, ↓dIsi2, ↓cLen, ↓cAll, ↓cStr, ↓cInt, ↓cTuple, ↓dListOf, ↓dCat, ↓dJoin, ↓dFmt, ↓dJs, ↓dJoined, ↓dGetT, ↓dInT, ↓dRev1, ↓bRep, ↓q1_at, ↓q2_at, ↓q3_at, ↓popex, ↓atx0, ↓atx1, ↓atx2, ↓atx3, ↓reduceIte,
  wipeD, backD, isInt, cast_succ_ne, at0, at1, at2, at3, ex_some, cut1, eqvS, eqvI, shS, shI, flatD, popget, emp_app, down0, down1, down2, down3, List.dropLast_concat, List.all_cons, List.all_nil, Bool.and_true, decide_eq_true_eq, isTy, isNone, startD, startF, List.map_cons, List.map_nil, List.length_cons, List.length_nil, List.nil_append, List.cons_append, List.replicate, List.getElem?_cons_zero, List.getElem?_cons_succ, List.getElem?_nil, List.set_cons_zero, List.set_cons_succ, List.set_nil, Nat.zero_add, Nat.reduceAdd, Nat.reduceSub, Nat.reduceLT, Nat.reduceLeDiff, Int.reduceAdd, Int.reduceSub, Int.toNat_natCast, if_true, if_false, ite_true, ite_false, Bool.false_eq_true, Bool.not_true, Bool.not_false, Bool.true_eq_false, true_and, and_true, Nat.sub_self, Nat.sub_zero, Nat.reduceMul, List.replicate_zero, List.append_nil])
      obtain ⟨z, ez, mz⟩ := at_in ra0 ra1
      exact ⟨z, ez, fun es ee => by cases ee; exact h z fsa _ rda (by omega) (by omega) (ch_menu hm he mz)⟩
    · by_cases q1 : r = 1
      · subst q1
        (simp (config := {maxSteps := 3000000}) only [↓dSeq, ↓dIfS, ↓dRet, ↓dRetN, ↓dAsg, ↓dAsgO, ↓dSet_eq, ↓sc_n, ↓sc_d, ↓sc_o, ↓sc_y, ↓dDrop, ↓dAsgG, ↓dPar2, ↓dPar3, ↓dPopAt, ↓dInsert, ↓dRevL, ↓dRevT, ↓bRepS, ↓dgTup, ↓dgCons, ↓dgName, ↓dgNil, ↓dNext, ↓dBreak, ↓dCont, ↓dVar, ↓dC, ↓dOp, ↓dTest, ↓dAnd, ↓dOr, ↓dNot, ↓dAndV, ↓dOrV, ↓dNotV, ↓dIf, ↓dIfL, ↓dNil, ↓dCons, ↓dTup, ↓dLst, ↓dFrz, ↓dCall, ↓dCallP_h, ↓dCallF_h, ↓dCallN_h, ↓hid_1, ↓dSeqOf, ↓dRange1, ↓dRange2, ↓dEnum, ↓dZip, ↓dForD, ↓forD, ↓dLcD, ↓dYes, ↓dAppend, ↓dPop, ↓dExtend, ↓dSetItem, ↓dTruO, ↓bInt, ↓bAdd, ↓bAddB, ↓dNeg, ↓bEq, ↓bNe, ↓bIs, ↓bIsNot, ↓bLt, ↓bLe, ↓bGt, ↓bGe, ↓bOrd, ↓dChain, ↓bIn, ↓bIx, ↓dIxO, ↓dLenO, ↓dNo, ↓dYesO, ↓dSlice, ↓SlD, ↓dIsi, ↓dIsi2, ↓cLen, ↓cAll, ↓cStr, ↓cInt, ↓cTuple, ↓dListOf, ↓dCat, ↓dJoin, ↓dFmt, ↓dJs, ↓dJoined, ↓dGetT, ↓dInT, ↓dRev1, ↓bRep, ↓q1_at, ↓q2_at, ↓q3_at, ↓popex, ↓atx0, ↓atx1, ↓atx2, ↓atx3, ↓reduceIte,
  wipeD, backD, isInt, cast_succ_ne, at0, at1, at2, at3, ex_some, cut1, eqvS, eqvI, shS, shI, flatD, popget, emp_app, down0, down1, down2, down3, List.dropLast_concat, List.all_cons, List.all_nil, Bool.and_true, decide_eq_true_eq, isTy, isNone, startD, startF, List.map_cons, List.map_nil, List.length_cons, List.length_nil, List.nil_append, List.cons_append, List.replicate, List.getElem?_cons_zero, List.getElem?_cons_succ, List.getElem?_nil, List.set_cons_zero, List.set_cons_succ, List.set_nil, Nat.zero_add, Nat.reduceAdd, Nat.reduceSub, Nat.reduceLT, Nat.reduceLeDiff, Int.reduceAdd, Int.reduceSub, Int.toNat_natCast, if_true, if_false, ite_true, ite_false, Bool.false_eq_true, Bool.not_true, Bool.not_false, Bool.true_eq_false, true_and, and_true, Nat.sub_self, Nat.sub_zero, Nat.reduceMul, List.replicate_zero, List.append_nil])
        refine ⟨_, 2, rdr, by omega, by show _ < (1099511627776 : Int); omega, rfl, by decide, by decide, fun s fss s0 s1 rds => ?_⟩
        have hl : x.length ≤ 9000 := by
          have : 10 * x.length + 6 ≤ 90000 := hw
          omega
        (simp (config := {maxSteps := 3000000}) only [↓dSeq, ↓dIfS, ↓dRet, ↓dRetN, ↓dAsg, ↓dAsgO, ↓dSet_eq, ↓sc_n, ↓sc_d, ↓sc_o, ↓sc_y, ↓dDrop, ↓dAsgG, ↓dPar2, ↓dPar3, ↓dPopAt, ↓dInsert, ↓dRevL, ↓dRevT, ↓bRepS, ↓dgTup, ↓dgCons, ↓dgName, ↓dgNil, ↓dNext, ↓dBreak, ↓dCont, ↓dVar, ↓dC, ↓dOp, ↓dTest, ↓dAnd, ↓dOr, ↓dNot, ↓dAndV, ↓dOrV, ↓dNotV, ↓dIf, ↓dIfL, ↓dNil, ↓dCons, ↓dTup, ↓dLst, ↓dFrz, ↓dCall, ↓dCallP_h, ↓dCallF_h, ↓dCallN_h, ↓hid_1, ↓dSeqOf, ↓dRange1, ↓dRange2, ↓dEnum, ↓dZip, ↓dForD, ↓forD, ↓dLcD, ↓dYes, ↓dAppend, ↓dPop, ↓dExtend, ↓dSetItem, ↓dTruO, ↓bInt, ↓bAdd, ↓bAddB, ↓dNeg, ↓bEq, ↓bNe, ↓bIs, ↓bIsNot, ↓bLt, ↓bLe, ↓bGt, ↓bGe, ↓bOrd, ↓dChain, ↓bIn, ↓bIx, ↓dIxO, ↓dLenO, ↓dNo, ↓dYesO, ↓dSlice, ↓SlD, ↓dIsi, ↓dIsi2, ↓cLen, ↓cAll, ↓cStr, ↓cInt, ↓cTuple, ↓dListOf, ↓dCat, ↓dJoin, ↓dFmt, ↓dJs, ↓dJoined, ↓dGetT, ↓dInT, ↓dRev1, ↓bRep, ↓q1_at, ↓q2_at, ↓q3_at, ↓popex, ↓atx0, ↓atx1, ↓atx2, ↓atx3, ↓reduceIte,
  wipeD, backD, isInt, cast_succ_ne, at0, at1, at2, at3, ex_some, cut1, eqvS, eqvI, shS, shI, flatD, popget, emp_app, down0, down1, down2, down3, List.dropLast_concat, List.all_cons, List.all_nil, Bool.and_true, decide_eq_true_eq, isTy, isNone, startD, startF, List.map_cons, List.map_nil, List.length_cons, List.length_nil, List.nil_append, List.cons_append, List.replicate, List.getElem?_cons_zero, List.getElem?_cons_succ, List.getElem?_nil, List.set_cons_zero, List.set_cons_succ, List.set_nil, Nat.zero_add, Nat.reduceAdd, Nat.reduceSub, Nat.reduceLT, Nat.reduceLeDiff, Int.reduceAdd, Int.reduceSub, Int.toNat_natCast, if_true, if_false, ite_true, ite_false, Bool.false_eq_true, Bool.not_true, Bool.not_false, Bool.true_eq_false, true_and, and_true, Nat.sub_self, Nat.sub_zero, Nat.reduceMul, List.replicate_zero, List.append_nil])
        by_cases q2 : s = 0
        · rw [if_pos q2]
          exact ⟨by rw [len_a]; omega, fun es ee => by cases ee; exact h _ fss _ rds (by omega) (by omega) (ch_str (chOk_app ok chOk_a) (by rw [Str.length_append, len_a]; omega))⟩
        · rw [if_neg q2]
          exact ⟨by omega, fun es ee => by cases ee; exact h _ fss _ rds (by omega) (by omega) (ch_str (chOk_cut ok) (by have := cut_len x (some 1) none; omega))⟩
      · (simp (config := {maxSteps := 3000000}) only [q0, q1, ↓dSeq, ↓dIfS, ↓dRet, ↓dRetN, ↓dAsg, ↓dAsgO, ↓dSet_eq, ↓sc_n, ↓sc_d, ↓sc_o, ↓sc_y, ↓dDrop, ↓dAsgG, ↓dPar2, ↓dPar3, ↓dPopAt, ↓dInsert, ↓dRevL, ↓dRevT, ↓bRepS, ↓dgTup, ↓dgCons, ↓dgName, ↓dgNil, ↓dNext, ↓dBreak, ↓dCont, ↓dVar, ↓dC, ↓dOp, ↓dTest, ↓dAnd, ↓dOr, ↓dNot, ↓dAndV, ↓dOrV, ↓dNotV, ↓dIf, ↓dIfL, ↓dNil, ↓dCons, ↓dTup, ↓dLst, ↓dFrz, ↓dCall, ↓dCallP_h, ↓dCallF_h, ↓dCallN_h, ↓hid_1, ↓dSeqOf, ↓dRange1, ↓dRange2, ↓dEnum, ↓dZip, ↓dForD, ↓forD, ↓dLcD, ↓dYes, ↓dAppend, ↓dPop, ↓dExtend, ↓dSetItem, ↓dTruO, ↓bInt, ↓bAdd, ↓bAddB, ↓dNeg, ↓bEq, ↓bNe, ↓bIs, ↓bIsNot, ↓bLt, ↓bLe, ↓bGt, ↓bGe, ↓bOrd, ↓dChain, ↓bIn, ↓bIx, ↓dIxO, ↓dLenO, ↓dNo, ↓dYesO, ↓dSlice, ↓SlD, ↓dIsi, ↓dIsi2, ↓cLen, ↓cAll, ↓cStr, ↓cInt, ↓cTuple, ↓dListOf, ↓dCat, ↓dJoin, ↓dFmt, ↓dJs, ↓dJoined, ↓dGetT, ↓dInT, ↓dRev1, ↓bRep, ↓q1_at, ↓q2_at, ↓q3_at, ↓popex, ↓atx0, ↓atx1, ↓atx2, ↓atx3, ↓reduceIte,
  wipeD, backD, isInt, cast_succ_ne, at0, at1, at2, at3, ex_some, cut1, eqvS, eqvI, shS, shI, flatD, popget, emp_app, down0, down1, down2, down3, List.dropLast_concat, List.all_cons, List.all_nil, Bool.and_true, decide_eq_true_eq, isTy, isNone, startD, startF, List.map_cons, List.map_nil, List.length_cons, List.length_nil, List.nil_append, List.cons_append, List.replicate, List.getElem?_cons_zero, List.getElem?_cons_succ, List.getElem?_nil, List.set_cons_zero, List.set_cons_succ, List.set_nil, Nat.zero_add, Nat.reduceAdd, Nat.reduceSub, Nat.reduceLT, Nat.reduceLeDiff, Int.reduceAdd, Int.reduceSub, Int.toNat_natCast, if_true, if_false, ite_true, ite_false, Bool.false_eq_true, Bool.not_true, Bool.not_false, Bool.true_eq_false, true_and, and_true, Nat.sub_self, Nat.sub_zero, Nat.reduceMul, List.replicate_zero, List.append_nil])
        refine ⟨_, ((menu.length : Nat) : Int), rdr, by omega, by show _ < (1099511627776 : Int); omega, rfl, by omega, by omega, fun ra fsa ra0 ra1 rda => ?_⟩
        (simp (config := {maxSteps := 3000000}) only [↓dSeq, ↓dIfS, ↓dRet, ↓dRetN, ↓dAsg, ↓dAsgO, ↓dSet_eq, ↓sc_n, ↓sc_d, ↓sc_o, ↓sc_y, ↓dDrop, ↓dAsgG, ↓dPar2, ↓dPar3, ↓dPopAt, ↓dInsert, ↓dRevL, ↓dRevT, ↓bRepS, ↓dgTup, ↓dgCons, ↓dgName, ↓dgNil, ↓dNext, ↓dBreak, ↓dCont, ↓dVar, ↓dC, ↓dOp, ↓dTest, ↓dAnd, ↓dOr, ↓dNot, ↓dAndV, ↓dOrV, ↓dNotV, ↓dIf, ↓dIfL, ↓dNil, ↓dCons, ↓dTup, ↓dLst, ↓dFrz, ↓dCall, ↓dCallP_h, ↓dCallF_h, ↓dCallN_h, ↓hid_1, ↓dSeqOf, ↓dRange1, ↓dRange2, ↓dEnum, ↓dZip, ↓dForD, ↓forD, ↓dLcD, ↓dYes, ↓dAppend, ↓dPop, ↓dExtend, ↓dSetItem, ↓dTruO, ↓bInt, ↓bAdd, ↓bAddB, ↓dNeg, ↓bEq, ↓bNe, ↓bIs, ↓bIsNot, ↓bLt, ↓bLe, ↓bGt, ↓bGe, ↓bOrd, ↓dChain, ↓bIn, ↓bIx, ↓dIxO, ↓dLenO, ↓dNo, ↓dYesO, ↓dSlice, ↓SlD, ↓dIsi, ↓dIsi2, ↓cLen, ↓cAll, ↓cStr, ↓cInt, ↓cTuple, ↓dListOf, ↓dCat, ↓dJoin, ↓dFmt, ↓dJs, ↓dJoined, ↓dGetT, ↓dInT, ↓dRev1, ↓bRep, ↓q1_at, ↓q2_at, ↓q3_at, ↓popex, ↓atx0, ↓atx1, ↓atx2, ↓atx3, ↓reduceIte,
  wipeD, backD, isInt, cast_succ_ne, at0, at1, at2, at3, ex_some, cut1, eqvS, eqvI, shS, shI, flatD, popget, emp_app, down0, down1, down2, down3, List.dropLast_concat, List.all_cons, List.all_nil, Bool.and_true, decide_eq_true_eq, isTy, isNone, startD, startF, List.map_cons, List.map_nil, List.length_cons, List.length_nil, List.nil_append, List.cons_append, List.replicate, List.getElem?_cons_zero, List.getElem?_cons_succ, List.getElem?_nil, List.set_cons_zero, List.set_cons_succ, List.set_nil, Nat.zero_add, Nat.reduceAdd, Nat.reduceSub, Nat.reduceLT, Nat.reduceLeDiff, Int.reduceAdd, Int.reduceSub, Int.toNat_natCast, if_true, if_false, ite_true, ite_false, Bool.false_eq_true, Bool.not_true, Bool.not_false, Bool.true_eq_false, true_and, and_true, Nat.sub_self, Nat.sub_zero, Nat.reduceMul, List.replicate_zero, List.append_nil])
        obtain ⟨z, ez, mz⟩ := at_in ra0 ra1
        exact ⟨z, ez, fun es ee => by cases ee; exact h z fsa _ rda (by omega) (by omega) (ch_menu hm he mz)⟩
  | list ds =>
    walk_at "st T1c"
    cases ds with
    | nil =>
      (simp (config := {maxSteps := 3000000}) only [↓dSeq, ↓dIfS, ↓dRet, ↓dRetN, ↓dAsg, ↓dAsgO, ↓dSet_eq, ↓sc_n, ↓sc_d, ↓sc_o, ↓sc_y, ↓dDrop, ↓dAsgG, ↓dPar2, ↓dPar3, ↓dPopAt, ↓dInsert, ↓dRevL, ↓dRevT, ↓bRepS, ↓dgTup, ↓dgCons, ↓dgName, ↓dgNil, ↓dNext, ↓dBreak, ↓dCont, ↓dVar, ↓dC, ↓dOp, ↓dTest, ↓dAnd, ↓dOr, ↓dNot, ↓dAndV, ↓dOrV, ↓dNotV, ↓dIf, ↓dIfL, ↓dNil, ↓dCons, ↓dTup, ↓dLst, ↓dFrz, ↓dCall, ↓dCallP_h, ↓dCallF_h, ↓dCallN_h, ↓hid_1, ↓dSeqOf, ↓dRange1, ↓dRange2, ↓dEnum, ↓dZip, ↓dForD, ↓forD, ↓dLcD, ↓dYes, ↓dAppend, ↓dPop, ↓dExtend, ↓dSetItem, ↓dTruO, ↓bInt, ↓bAdd, ↓bAddB, ↓dNeg, ↓bEq, ↓bNe, ↓bIs, ↓bIsNot, ↓bLt, ↓bLe, ↓bGt, ↓bGe, ↓bOrd, ↓dChain, ↓bIn, ↓bIx, ↓dIxO, ↓dLenO, ↓dNo, ↓dYesO, ↓dSlice, ↓SlD, ↓dIsi, ↓dIsi2, ↓cLen, ↓cAll, ↓cStr, ↓cInt, ↓cTuple, ↓dListOf, ↓dCat, ↓dJoin, ↓dFmt, ↓dJs, ↓dJoined, ↓dGetT, ↓dInT, ↓dRev1, ↓bRep, ↓q1_at, ↓q2_at, ↓q3_at, ↓popex, ↓atx0, ↓atx1, ↓atx2, ↓atx3, ↓reduceIte,
  wipeD, backD, isInt, cast_succ_ne, at0, at1, at2, at3, ex_some, cut1, eqvS, eqvI, shS, shI, flatD, popget, emp_app, down0, down1, down2, down3, List.dropLast_concat, List.all_cons, List.all_nil, Bool.and_true, decide_eq_true_eq, isTy, isNone, startD, startF, List.map_cons, List.map_nil, List.length_cons, List.length_nil, List.nil_append, List.cons_append, List.replicate, List.getElem?_cons_zero, List.getElem?_cons_succ, List.getElem?_nil, List.set_cons_zero, List.set_cons_succ, List.set_nil, Nat.zero_add, Nat.reduceAdd, Nat.reduceSub, Nat.reduceLT, Nat.reduceLeDiff, Int.reduceAdd, Int.reduceSub, Int.toNat_natCast, if_true, if_false, ite_true, ite_false, Bool.false_eq_true, Bool.not_true, Bool.not_false, Bool.true_eq_false, true_and, and_true, Nat.sub_self, Nat.sub_zero, Nat.reduceMul, List.replicate_zero, List.append_nil])
      refine ⟨_, 4, rd, by omega, by show _ < (1099511627776 : Int); omega, rfl, by decide, by decide, fun r fsr r0 r1 rdr => ?_⟩
      by_cases q0 : r = 0
      · subst q0
        (simp (config := {maxSteps := 3000000}) only [↓dSeq, ↓dIfS, ↓dRet, ↓dRetN, ↓dAsg, ↓dAsgO, ↓dSet_eq, ↓sc_n, ↓sc_d, ↓sc_o, ↓sc_y, ↓dDrop, ↓dAsgG, ↓dPar2, ↓dPar3, ↓dPopAt, ↓dInsert, ↓dRevL, ↓dRevT, ↓bRepS, ↓dgTup, ↓dgCons, ↓dgName, ↓dgNil, ↓dNext, ↓dBreak, ↓dCont, ↓dVar, ↓dC, ↓dOp, ↓dTest, ↓dAnd, ↓dOr, ↓dNot, ↓dAndV, ↓dOrV, ↓dNotV, ↓dIf, ↓dIfL, ↓dNil, ↓dCons, ↓dTup, ↓dLst, ↓dFrz, ↓dCall, ↓dCallP_h, ↓dCallF_h, ↓dCallN_h, ↓hid_1, ↓dSeqOf, ↓dRange1, ↓dRange2, ↓dEnum, ↓dZip, ↓dForD, ↓forD, ↓dLcD, ↓dYes, ↓dAppend, ↓dPop, ↓dExtend, ↓dSetItem, ↓dTruO, ↓bInt, ↓bAdd, ↓bAddB, ↓dNeg, ↓bEq, ↓bNe, ↓bIs, ↓bIsNot, ↓bLt, ↓bLe, ↓bGt, ↓bGe, ↓bOrd, ↓dChain, ↓bIn, ↓bIx, ↓dIxO, ↓dLenO, ↓dNo, ↓dYesO, ↓dSlice, ↓SlD, ↓dIsi, ↓dIsi2, ↓cLen, ↓cAll, ↓cStr, ↓cInt, ↓cTuple, ↓dListOf, ↓dCat, ↓dJoin, ↓dFmt, ↓dJs, ↓dJoined, ↓dGetT, ↓dInT, ↓dRev1, ↓bRep, ↓q1_at, ↓q2_at, ↓q3_at, ↓popex, ↓atx0, ↓atx1, ↓atx2, ↓atx3, ↓reduceIte,
  wipeD, backD, isInt, cast_succ_ne, at0, at1, at2, at3, ex_some, cut1, eqvS, eqvI, shS, shI, flatD, popget, emp_app, down0, down1, down2, down3, List.dropLast_concat, List.all_cons, List.all_nil, Bool.and_true, decide_eq_true_eq, isTy, isNone, startD, startF, List.map_cons, List.map_nil, List.length_cons, List.length_nil, List.nil_append, List.cons_append, List.replicate, List.getElem?_cons_zero, List.getElem?_cons_succ, List.getElem?_nil, List.set_cons_zero, List.set_cons_succ, List.set_nil, Nat.zero_add, Nat.reduceAdd, Nat.reduceSub, Nat.reduceLT, Nat.reduceLeDiff, Int.reduceAdd, Int.reduceSub, Int.toNat_natCast, if_true, if_false, ite_true, ite_false, Bool.false_eq_true, Bool.not_true, Bool.not_false, Bool.true_eq_false, true_and, and_true, Nat.sub_self, Nat.sub_zero, Nat.reduceMul, List.replicate_zero, List.append_nil])
        exact fun es ee => by cases ee; exact h _ fsr _ rdr (by omega) (by omega) (ch_turn rfl ok rfl)
      · by_cases q1 : r = 1
        · subst q1
          (simp (config := {maxSteps := 3000000}) only [↓dSeq, ↓dIfS, ↓dRet, ↓dRetN, ↓dAsg, ↓dAsgO, ↓dSet_eq, ↓sc_n, ↓sc_d, ↓sc_o, ↓sc_y, ↓dDrop, ↓dAsgG, ↓dPar2, ↓dPar3, ↓dPopAt, ↓dInsert, ↓dRevL, ↓dRevT, ↓bRepS, ↓dgTup, ↓dgCons, ↓dgName, ↓dgNil, ↓dNext, ↓dBreak, ↓dCont, ↓dVar, ↓dC, ↓dOp, ↓dTest, ↓dAnd, ↓dOr, ↓dNot, ↓dAndV, ↓dOrV, ↓dNotV, ↓dIf, ↓dIfL, ↓dNil, ↓dCons, ↓dTup, ↓dLst, ↓dFrz, ↓dCall, ↓dCallP_h, ↓dCallF_h, ↓dCallN_h, ↓hid_1, ↓dSeqOf, ↓dRange1, ↓dRange2, ↓dEnum, ↓dZip, ↓dForD, ↓forD, ↓dLcD, ↓dYes, ↓dAppend, ↓dPop, ↓dExtend, ↓dSetItem, ↓dTruO, ↓bInt, ↓bAdd, ↓bAddB, ↓dNeg, ↓bEq, ↓bNe, ↓bIs, ↓bIsNot, ↓bLt, ↓bLe, ↓bGt, ↓bGe, ↓bOrd, ↓dChain, ↓bIn, ↓bIx, ↓dIxO, ↓dLenO, ↓dNo, ↓dYesO, ↓dSlice, ↓SlD, ↓dIsi, ↓dIsi2, ↓cLen, ↓cAll, ↓cStr, ↓cInt, ↓cTuple, ↓dListOf, ↓dCat, ↓dJoin, ↓dFmt, ↓dJs, ↓dJoined, ↓dGetT, ↓dInT, ↓dRev1, ↓bRep, ↓q1_at, ↓q2_at, ↓q3_at, ↓popex, ↓atx0, ↓atx1, ↓atx2, ↓atx3, ↓reduceIte,
  wipeD, backD, isInt, cast_succ_ne, at0, at1, at2, at3, ex_some, cut1, eqvS, eqvI, shS, shI, flatD, popget, emp_app, down0, down1, down2, down3, List.dropLast_concat, List.all_cons, List.all_nil, Bool.and_true, decide_eq_true_eq, isTy, isNone, startD, startF, List.map_cons, List.map_nil, List.length_cons, List.length_nil, List.nil_append, List.cons_append, List.replicate, List.getElem?_cons_zero, List.getElem?_cons_succ, List.getElem?_nil, List.set_cons_zero, List.set_cons_succ, List.set_nil, Nat.zero_add, Nat.reduceAdd, Nat.reduceSub, Nat.reduceLT, Nat.reduceLeDiff, Int.reduceAdd, Int.reduceSub, Int.toNat_natCast, if_true, if_false, ite_true, ite_false, Bool.false_eq_true, Bool.not_true, Bool.not_false, Bool.true_eq_false, true_and, and_true, Nat.sub_self, Nat.sub_zero, Nat.reduceMul, List.replicate_zero, List.append_nil])
          refine ⟨_, ((menu.length : Nat) : Int), rdr, by omega, by show _ < (1099511627776 : Int); omega, rfl, by omega, by omega, fun ra fsa ra0 ra1 rda => ?_⟩
          (simp (config := {maxSteps := 3000000}) only [↓dSeq, ↓dIfS, ↓dRet, ↓dRetN, ↓dAsg, ↓dAsgO, ↓dSet_eq, ↓sc_n, ↓sc_d, ↓sc_o, ↓sc_y, ↓dDrop, ↓dAsgG, ↓dPar2, ↓dPar3, ↓dPopAt, ↓dInsert, ↓dRevL, ↓dRevT, ↓bRepS, ↓dgTup, ↓dgCons, ↓dgName, ↓dgNil, ↓dNext, ↓dBreak, ↓dCont, ↓dVar, ↓dC, ↓dOp, ↓dTest, ↓dAnd, ↓dOr, ↓dNot, ↓dAndV, ↓dOrV, ↓dNotV, ↓dIf, ↓dIfL, ↓dNil, ↓dCons, ↓dTup, ↓dLst, ↓dFrz, ↓dCall, ↓dCallP_h, ↓dCallF_h, ↓dCallN_h, ↓hid_1, ↓dSeqOf, ↓dRange1, ↓dRange2, ↓dEnum, ↓dZip, ↓dForD, ↓forD, ↓dLcD, ↓dYes, ↓dAppend, ↓dPop, ↓dExtend, ↓dSetItem, ↓dTruO, ↓bInt, ↓bAdd, ↓bAddB, ↓dNeg, ↓bEq, ↓bNe, ↓bIs, ↓bIsNot, ↓bLt, ↓bLe, ↓bGt, ↓bGe, ↓bOrd, ↓dChain, ↓bIn, ↓bIx, ↓dIxO, ↓dLenO, ↓dNo, ↓dYesO, ↓dSlice, ↓SlD, ↓dIsi, ↓dIsi2, ↓cLen, ↓cAll, ↓cStr, ↓cInt, ↓cTuple, ↓dListOf, ↓dCat, ↓dJoin, ↓dFmt, ↓dJs, ↓dJoined, ↓dGetT, ↓dInT, ↓dRev1, ↓bRep, ↓q1_at, ↓q2_at, ↓q3_at, ↓popex, ↓atx0, ↓atx1, ↓atx2, ↓atx3, ↓reduceIte,
  wipeD, backD, isInt, cast_succ_ne, at0, at1, at2, at3, ex_some, cut1, eqvS, eqvI, shS, shI, flatD, popget, emp_app, down0, down1, down2, down3, List.dropLast_concat, List.all_cons, List.all_nil, Bool.and_true, decide_eq_true_eq, isTy, isNone, startD, startF, List.map_cons, List.map_nil, List.length_cons, List.length_nil, List.nil_append, List.cons_append, List.replicate, List.getElem?_cons_zero, List.getElem?_cons_succ, List.getElem?_nil, List.set_cons_zero, List.set_cons_succ, List.set_nil, Nat.zero_add, Nat.reduceAdd, Nat.reduceSub, Nat.reduceLT, Nat.reduceLeDiff, Int.reduceAdd, Int.reduceSub, Int.toNat_natCast, if_true, if_false, ite_true, ite_false, Bool.false_eq_true, Bool.not_true, Bool.not_false, Bool.true_eq_false, true_and, and_true, Nat.sub_self, Nat.sub_zero, Nat.reduceMul, List.replicate_zero, List.append_nil])
          obtain ⟨z, ez, mz⟩ := at_in ra0 ra1
          exact ⟨z, ez, fun es ee => by cases ee; exact h z fsa _ rda (by omega) (by omega) (ch_menu hm he mz)⟩
        · (simp (config := {maxSteps := 3000000}) only [q0, q1, ↓dSeq, ↓dIfS, ↓dRet, ↓dRetN, ↓dAsg, ↓dAsgO, ↓dSet_eq, ↓sc_n, ↓sc_d, ↓sc_o, ↓sc_y, ↓dDrop, ↓dAsgG, ↓dPar2, ↓dPar3, ↓dPopAt, ↓dInsert, ↓dRevL, ↓dRevT, ↓bRepS, ↓dgTup, ↓dgCons, ↓dgName, ↓dgNil, ↓dNext, ↓dBreak, ↓dCont, ↓dVar, ↓dC, ↓dOp, ↓dTest, ↓dAnd, ↓dOr, ↓dNot, ↓dAndV, ↓dOrV, ↓dNotV, ↓dIf, ↓dIfL, ↓dNil, ↓dCons, ↓dTup, ↓dLst, ↓dFrz, ↓dCall, ↓dCallP_h, ↓dCallF_h, ↓dCallN_h, ↓hid_1, ↓dSeqOf, ↓dRange1, ↓dRange2, ↓dEnum, ↓dZip, ↓dForD, ↓forD, ↓dLcD, ↓dYes, ↓dAppend, ↓dPop, ↓dExtend, ↓dSetItem, ↓dTruO, ↓bInt, ↓bAdd, ↓bAddB, ↓dNeg, ↓bEq, ↓bNe, ↓bIs, ↓bIsNot, ↓bLt, ↓bLe, ↓bGt, ↓bGe, ↓bOrd, ↓dChain, ↓bIn, ↓bIx, ↓dIxO, ↓dLenO, ↓dNo, ↓dYesO, ↓dSlice, ↓SlD, ↓dIsi, ↓dIsi2, ↓cLen, ↓cAll, ↓cStr, ↓cInt, ↓cTuple, ↓dListOf, ↓dCat, ↓dJoin, ↓dFmt, ↓dJs, ↓dJoined, ↓dGetT, ↓dInT, ↓dRev1, ↓bRep, ↓q1_at, ↓q2_at, ↓q3_at, ↓popex, ↓atx0, ↓atx1, ↓atx2, ↓atx3, ↓reduceIte,
  wipeD, backD, isInt, cast_succ_ne, at0, at1, at2, at3, ex_some, cut1, eqvS, eqvI, shS, shI, flatD, popget, emp_app, down0, down1, down2, down3, List.dropLast_concat, List.all_cons, List.all_nil, Bool.and_true, decide_eq_true_eq, isTy, isNone, startD, startF, List.map_cons, List.map_nil, List.length_cons, List.length_nil, List.nil_append, List.cons_append, List.replicate, List.getElem?_cons_zero, List.getElem?_cons_succ, List.getElem?_nil, List.set_cons_zero, List.set_cons_succ, List.set_nil, Nat.zero_add, Nat.reduceAdd, Nat.reduceSub, Nat.reduceLT, Nat.reduceLeDiff, Int.reduceAdd, Int.reduceSub, Int.toNat_natCast, if_true, if_false, ite_true, ite_false, Bool.false_eq_true, Bool.not_true, Bool.not_false, Bool.true_eq_false, true_and, and_true, Nat.sub_self, Nat.sub_zero, Nat.reduceMul, List.replicate_zero, List.append_nil])
          refine ⟨_, ((menu.length : Nat) : Int), rdr, by omega, by show _ < (1099511627776 : Int); omega, rfl, by omega, by omega, fun ra fsa ra0 ra1 rda => ?_⟩
          (simp (config := {maxSteps := 3000000}) only [↓dSeq, ↓dIfS, ↓dRet, ↓dRetN, ↓dAsg, ↓dAsgO, ↓dSet_eq, ↓sc_n, ↓sc_d, ↓sc_o, ↓sc_y, ↓dDrop, ↓dAsgG, ↓dPar2, ↓dPar3, ↓dPopAt, ↓dInsert, ↓dRevL, ↓dRevT, ↓bRepS, ↓dgTup, ↓dgCons, ↓dgName, ↓dgNil, ↓dNext, ↓dBreak, ↓dCont, ↓dVar, ↓dC, ↓dOp, ↓dTest, ↓dAnd, ↓dOr, ↓dNot, ↓dAndV, ↓dOrV, ↓dNotV, ↓dIf, ↓dIfL, ↓dNil, ↓dCons, ↓dTup, ↓dLst, ↓dFrz, ↓dCall, ↓dCallP_h, ↓dCallF_h, ↓dCallN_h, ↓hid_1, ↓dSeqOf, ↓dRange1, ↓dRange2, ↓dEnum, ↓dZip, ↓dForD, ↓forD, ↓dLcD, ↓dYes, ↓dAppend, ↓dPop, ↓dExtend, ↓dSetItem, ↓dTruO, ↓bInt, ↓bAdd, ↓bAddB, ↓dNeg, ↓bEq, ↓bNe, ↓bIs, ↓bIsNot, ↓bLt, ↓bLe, ↓bGt, ↓bGe, ↓bOrd, ↓dChain, ↓bIn, ↓bIx, ↓dIxO, ↓dLenO, ↓dNo, ↓dYesO, ↓dSlice, ↓SlD, ↓dIsi, ↓dIsi2, ↓cLen, ↓cAll, ↓cStr, ↓cInt, ↓cTuple, ↓dListOf, ↓dCat, ↓dJoin, ↓dFmt, ↓dJs, ↓dJoined, ↓dGetT, ↓dInT, ↓dRev1, ↓bRep, ↓q1_at, ↓q2_at, ↓q3_at, ↓popex, ↓atx0, ↓atx1, ↓atx2, ↓atx3, ↓reduceIte,
  wipeD, backD, isInt, cast_succ_ne, at0, at1, at2, at3, ex_some, cut1, eqvS, eqvI, shS, shI, flatD, popget, emp_app, down0, down1, down2, down3, List.dropLast_concat, List.all_cons, List.all_nil, Bool.and_true, decide_eq_true_eq, isTy, isNone, startD, startF, List.map_cons, List.map_nil, List.length_cons, List.length_nil, List.nil_append, List.cons_append, List.replicate, List.getElem?_cons_zero, List.getElem?_cons_succ, List.getElem?_nil, List.set_cons_zero, List.set_cons_succ, List.set_nil, Nat.zero_add, Nat.reduceAdd, Nat.reduceSub, Nat.reduceLT, Nat.reduceLeDiff, Int.reduceAdd, Int.reduceSub, Int.toNat_natCast, if_true, if_false, ite_true, ite_false, Bool.false_eq_true, Bool.not_true, Bool.not_false, Bool.true_eq_false, true_and, and_true, Nat.sub_self, Nat.sub_zero, Nat.reduceMul, List.replicate_zero, List.append_nil])
          obtain ⟨z, ez, mz⟩ := at_in ra0 ra1
          exact ⟨z, ez, fun es ee => by cases ee; exact h z fsa _ rda (by omega) (by omega) (ch_menu hm he mz)⟩
    | cons z0 ds0 =>
      have hne : (0 : Int) < (((z0 :: ds0).length : Nat) : Int) := by rw [List.length_cons]; omega
      have hL : (z0 :: ds0).length ≤ 12000 := by
        have a := wtL_len (z0 :: ds0)
        have b : 6 + wtL (z0 :: ds0) ≤ 90000 := hw
        omega
      generalize hg : z0 :: ds0 = ds at *
      (simp (config := {maxSteps := 3000000}) only [hne, ↓dSeq, ↓dIfS, ↓dRet, ↓dRetN, ↓dAsg, ↓dAsgO, ↓dSet_eq, ↓sc_n, ↓sc_d, ↓sc_o, ↓sc_y, ↓dDrop, ↓dAsgG, ↓dPar2, ↓dPar3, ↓dPopAt, ↓dInsert, ↓dRevL, ↓dRevT, ↓bRepS, ↓dgTup, ↓dgCons, ↓dgName, ↓dgNil, ↓dNext, ↓dBreak, ↓dCont, ↓dVar, ↓dC, ↓dOp, ↓dTest, ↓dAnd, ↓dOr, ↓dNot, ↓dAndV, ↓dOrV, ↓dNotV, ↓dIf, ↓dIfL, ↓dNil, ↓dCons, ↓dTup, ↓dLst, ↓dFrz, ↓dCall, ↓dCallP_h, ↓dCallF_h, ↓dCallN_h, ↓hid_1, ↓dSeqOf, ↓dRange1, ↓dRange2, ↓dEnum, ↓dZip, ↓dForD, ↓forD, ↓dLcD, ↓dYes, ↓dAppend, ↓dPop, ↓dExtend, ↓dSetItem, ↓dTruO, ↓bInt, ↓bAdd, ↓bAddB, ↓dNeg, ↓bEq, ↓bNe, ↓bIs, ↓bIsNot, ↓bLt, ↓bLe, ↓bGt, ↓bGe, ↓bOrd, ↓dChain, ↓bIn, ↓bIx, ↓dIxO, ↓dLenO, ↓dNo, ↓dYesO, ↓dSlice, ↓SlD, ↓dIsi, ↓dIsi2, ↓cLen, ↓cAll, ↓cStr, ↓cInt, ↓cTuple, ↓dListOf, ↓dCat, ↓dJoin, ↓dFmt, ↓dJs, ↓dJoined, ↓dGetT, ↓dInT, ↓dRev1, ↓bRep, ↓q1_at, ↓q2_at, ↓q3_at, ↓popex, ↓atx0, ↓atx1, ↓atx2, ↓atx3, ↓reduceIte,
  wipeD, backD, isInt, cast_succ_ne, at0, at1, at2, at3, ex_some, cut1, eqvS, eqvI, shS, shI, flatD, popget, emp_app, down0, down1, down2, down3, List.dropLast_concat, List.all_cons, List.all_nil, Bool.and_true, decide_eq_true_eq, isTy, isNone, startD, startF, List.map_cons, List.map_nil, List.length_cons, List.length_nil, List.nil_append, List.cons_append, List.replicate, List.getElem?_cons_zero, List.getElem?_cons_succ, List.getElem?_nil, List.set_cons_zero, List.set_cons_succ, List.set_nil, Nat.zero_add, Nat.reduceAdd, Nat.reduceSub, Nat.reduceLT, Nat.reduceLeDiff, Int.reduceAdd, Int.reduceSub, Int.toNat_natCast, if_true, if_false, ite_true, ite_false, Bool.false_eq_true, Bool.not_true, Bool.not_false, Bool.true_eq_false, true_and, and_true, Nat.sub_self, Nat.sub_zero, Nat.reduceMul, List.replicate_zero, List.append_nil])
      refine ⟨_, 4, rd, by omega, by show _ < (1099511627776 : Int); omega, rfl, by decide, by decide, fun u fsu u0 u1 rdu => ?_⟩
      (simp (config := {maxSteps := 3000000}) only [↓dSeq, ↓dIfS, ↓dRet, ↓dRetN, ↓dAsg, ↓dAsgO, ↓dSet_eq, ↓sc_n, ↓sc_d, ↓sc_o, ↓sc_y, ↓dDrop, ↓dAsgG, ↓dPar2, ↓dPar3, ↓dPopAt, ↓dInsert, ↓dRevL, ↓dRevT, ↓bRepS, ↓dgTup, ↓dgCons, ↓dgName, ↓dgNil, ↓dNext, ↓dBreak, ↓dCont, ↓dVar, ↓dC, ↓dOp, ↓dTest, ↓dAnd, ↓dOr, ↓dNot, ↓dAndV, ↓dOrV, ↓dNotV, ↓dIf, ↓dIfL, ↓dNil, ↓dCons, ↓dTup, ↓dLst, ↓dFrz, ↓dCall, ↓dCallP_h, ↓dCallF_h, ↓dCallN_h, ↓hid_1, ↓dSeqOf, ↓dRange1, ↓dRange2, ↓dEnum, ↓dZip, ↓dForD, ↓forD, ↓dLcD, ↓dYes, ↓dAppend, ↓dPop, ↓dExtend, ↓dSetItem, ↓dTruO, ↓bInt, ↓bAdd, ↓bAddB, ↓dNeg, ↓bEq, ↓bNe, ↓bIs, ↓bIsNot, ↓bLt, ↓bLe, ↓bGt, ↓bGe, ↓bOrd, ↓dChain, ↓bIn, ↓bIx, ↓dIxO, ↓dLenO, ↓dNo, ↓dYesO, ↓dSlice, ↓SlD, ↓dIsi, ↓dIsi2, ↓cLen, ↓cAll, ↓cStr, ↓cInt, ↓cTuple, ↓dListOf, ↓dCat, ↓dJoin, ↓dFmt, ↓dJs, ↓dJoined, ↓dGetT, ↓dInT, ↓dRev1, ↓bRep, ↓q1_at, ↓q2_at, ↓q3_at, ↓popex, ↓atx0, ↓atx1, ↓atx2, ↓atx3, ↓reduceIte,
  wipeD, backD, isInt, cast_succ_ne, at0, at1, at2, at3, ex_some, cut1, eqvS, eqvI, shS, shI, flatD, popget, emp_app, down0, down1, down2, down3, List.dropLast_concat, List.all_cons, List.all_nil, Bool.and_true, decide_eq_true_eq, isTy, isNone, startD, startF, List.map_cons, List.map_nil, List.length_cons, List.length_nil, List.nil_append, List.cons_append, List.replicate, List.getElem?_cons_zero, List.getElem?_cons_succ, List.getElem?_nil, List.set_cons_zero, List.set_cons_succ, List.set_nil, Nat.zero_add, Nat.reduceAdd, Nat.reduceSub, Nat.reduceLT, Nat.reduceLeDiff, Int.reduceAdd, Int.reduceSub, Int.toNat_natCast, if_true, if_false, ite_true, ite_false, Bool.false_eq_true, Bool.not_true, Bool.not_false, Bool.true_eq_false, true_and, and_true, Nat.sub_self, Nat.sub_zero, Nat.reduceMul, List.replicate_zero, List.append_nil])
      by_cases qu : 0 < u
      · rw [if_pos qu]
        refine ⟨_, ((ds.length : Nat) : Int), rdu, by omega, by show _ < (1099511627776 : Int); omega, rfl, by omega, by omega, fun a fsa a0 a1 rda => ?_⟩
        (simp (config := {maxSteps := 3000000}) only [↓dSeq, ↓dIfS, ↓dRet, ↓dRetN, ↓dAsg, ↓dAsgO, ↓dSet_eq, ↓sc_n, ↓sc_d, ↓sc_o, ↓sc_y, ↓dDrop, ↓dAsgG, ↓dPar2, ↓dPar3, ↓dPopAt, ↓dInsert, ↓dRevL, ↓dRevT, ↓bRepS, ↓dgTup, ↓dgCons, ↓dgName, ↓dgNil, ↓dNext, ↓dBreak, ↓dCont, ↓dVar, ↓dC, ↓dOp, ↓dTest, ↓dAnd, ↓dOr, ↓dNot, ↓dAndV, ↓dOrV, ↓dNotV, ↓dIf, ↓dIfL, ↓dNil, ↓dCons, ↓dTup, ↓dLst, ↓dFrz, ↓dCall, ↓dCallP_h, ↓dCallF_h, ↓dCallN_h, ↓hid_1, ↓dSeqOf, ↓dRange1, ↓dRange2, ↓dEnum, ↓dZip, ↓dForD, ↓forD, ↓dLcD, ↓dYes, ↓dAppend, ↓dPop, ↓dExtend, ↓dSetItem, ↓dTruO, ↓bInt, ↓bAdd, ↓bAddB, ↓dNeg, ↓bEq, ↓bNe, ↓bIs, ↓bIsNot, ↓bLt, ↓bLe, ↓bGt, ↓bGe, ↓bOrd, ↓dChain, ↓bIn, ↓bIx, ↓dIxO, ↓dLenO, ↓dNo, ↓dYesO, ↓dSlice, ↓SlD, ↓dIsi, ↓dIsi2, ↓cLen, ↓cAll, ↓cStr, ↓cInt, ↓cTuple, ↓dListOf, ↓dCat, ↓dJoin, ↓dFmt, ↓dJs, ↓dJoined, ↓dGetT, ↓dInT, ↓dRev1, ↓bRep, ↓q1_at, ↓q2_at, ↓q3_at, ↓popex, ↓atx0, ↓atx1, ↓atx2, ↓atx3, ↓reduceIte,
  wipeD, backD, isInt, cast_succ_ne, at0, at1, at2, at3, ex_some, cut1, eqvS, eqvI, shS, shI, flatD, popget, emp_app, down0, down1, down2, down3, List.dropLast_concat, List.all_cons, List.all_nil, Bool.and_true, decide_eq_true_eq, isTy, isNone, startD, startF, List.map_cons, List.map_nil, List.length_cons, List.length_nil, List.nil_append, List.cons_append, List.replicate, List.getElem?_cons_zero, List.getElem?_cons_succ, List.getElem?_nil, List.set_cons_zero, List.set_cons_succ, List.set_nil, Nat.zero_add, Nat.reduceAdd, Nat.reduceSub, Nat.reduceLT, Nat.reduceLeDiff, Int.reduceAdd, Int.reduceSub, Int.toNat_natCast, if_true, if_false, ite_true, ite_false, Bool.false_eq_true, Bool.not_true, Bool.not_false, Bool.true_eq_false, true_and, and_true, Nat.sub_self, Nat.sub_zero, Nat.reduceMul, List.replicate_zero, List.append_nil])
        refine ⟨_, 7, rda, by omega, by show _ < (1099511627776 : Int); omega, rfl, by decide, by decide, fun v fsv v0 v1 rdv => ?_⟩
        obtain ⟨x, ex, mx, gx⟩ := at_in2 a0 a1
        have ok' := (ok_itm (d := .list ds) rfl).mp ok
        have ox := okVL_iff.mp ok' x mx
        have dx : x.depth + 1 ≤ PyData.depth (.list ds) := by have := depth_mem mx; rw [dp_itm (d := .list ds) rfl]; omega
        have wx := wtL_mem mx
        have wd : T1.wt (.list ds) = 6 + wtL ds := rfl
        by_cases v4 : v < 4
        · (simp (config := {maxSteps := 3000000}) only [v4, ↓dSeq, ↓dIfS, ↓dRet, ↓dRetN, ↓dAsg, ↓dAsgO, ↓dSet_eq, ↓sc_n, ↓sc_d, ↓sc_o, ↓sc_y, ↓dDrop, ↓dAsgG, ↓dPar2, ↓dPar3, ↓dPopAt, ↓dInsert, ↓dRevL, ↓dRevT, ↓bRepS, ↓dgTup, ↓dgCons, ↓dgName, ↓dgNil, ↓dNext, ↓dBreak, ↓dCont, ↓dVar, ↓dC, ↓dOp, ↓dTest, ↓dAnd, ↓dOr, ↓dNot, ↓dAndV, ↓dOrV, ↓dNotV, ↓dIf, ↓dIfL, ↓dNil, ↓dCons, ↓dTup, ↓dLst, ↓dFrz, ↓dCall, ↓dCallP_h, ↓dCallF_h, ↓dCallN_h, ↓hid_1, ↓dSeqOf, ↓dRange1, ↓dRange2, ↓dEnum, ↓dZip, ↓dForD, ↓forD, ↓dLcD, ↓dYes, ↓dAppend, ↓dPop, ↓dExtend, ↓dSetItem, ↓dTruO, ↓bInt, ↓bAdd, ↓bAddB, ↓dNeg, ↓bEq, ↓bNe, ↓bIs, ↓bIsNot, ↓bLt, ↓bLe, ↓bGt, ↓bGe, ↓bOrd, ↓dChain, ↓bIn, ↓bIx, ↓dIxO, ↓dLenO, ↓dNo, ↓dYesO, ↓dSlice, ↓SlD, ↓dIsi, ↓dIsi2, ↓cLen, ↓cAll, ↓cStr, ↓cInt, ↓cTuple, ↓dListOf, ↓dCat, ↓dJoin, ↓dFmt, ↓dJs, ↓dJoined, ↓dGetT, ↓dInT, ↓dRev1, ↓bRep, ↓q1_at, ↓q2_at, ↓q3_at, ↓popex, ↓atx0, ↓atx1, ↓atx2, ↓atx3, ↓reduceIte,
  wipeD, backD, isInt, cast_succ_ne, at0, at1, at2, at3, ex_some, cut1, eqvS, eqvI, shS, shI, flatD, popget, emp_app, down0, down1, down2, down3, List.dropLast_concat, List.all_cons, List.all_nil, Bool.and_true, decide_eq_true_eq, isTy, isNone, startD, startF, List.map_cons, List.map_nil, List.length_cons, List.length_nil, List.nil_append, List.cons_append, List.replicate, List.getElem?_cons_zero, List.getElem?_cons_succ, List.getElem?_nil, List.set_cons_zero, List.set_cons_succ, List.set_nil, Nat.zero_add, Nat.reduceAdd, Nat.reduceSub, Nat.reduceLT, Nat.reduceLeDiff, Int.reduceAdd, Int.reduceSub, Int.toNat_natCast, if_true, if_false, ite_true, ite_false, Bool.false_eq_true, Bool.not_true, Bool.not_false, Bool.true_eq_false, true_and, and_true, Nat.sub_self, Nat.sub_zero, Nat.reduceMul, List.replicate_zero, List.append_nil])
          refine ⟨x, ex, x, menu, e, _, rfl, ox, he, by omega, by omega, hm, rdv, by omega, by show _ < (1099511627776 : Int); omega, fun d' fs' m' rd' m0' m1' c => ?_⟩
          (simp (config := {maxSteps := 3000000}) only [↓dSeq, ↓dIfS, ↓dRet, ↓dRetN, ↓dAsg, ↓dAsgO, ↓dSet_eq, ↓sc_n, ↓sc_d, ↓sc_o, ↓sc_y, ↓dDrop, ↓dAsgG, ↓dPar2, ↓dPar3, ↓dPopAt, ↓dInsert, ↓dRevL, ↓dRevT, ↓bRepS, ↓dgTup, ↓dgCons, ↓dgName, ↓dgNil, ↓dNext, ↓dBreak, ↓dCont, ↓dVar, ↓dC, ↓dOp, ↓dTest, ↓dAnd, ↓dOr, ↓dNot, ↓dAndV, ↓dOrV, ↓dNotV, ↓dIf, ↓dIfL, ↓dNil, ↓dCons, ↓dTup, ↓dLst, ↓dFrz, ↓dCall, ↓dCallP_h, ↓dCallF_h, ↓dCallN_h, ↓hid_1, ↓dSeqOf, ↓dRange1, ↓dRange2, ↓dEnum, ↓dZip, ↓dForD, ↓forD, ↓dLcD, ↓dYes, ↓dAppend, ↓dPop, ↓dExtend, ↓dSetItem, ↓dTruO, ↓bInt, ↓bAdd, ↓bAddB, ↓dNeg, ↓bEq, ↓bNe, ↓bIs, ↓bIsNot, ↓bLt, ↓bLe, ↓bGt, ↓bGe, ↓bOrd, ↓dChain, ↓bIn, ↓bIx, ↓dIxO, ↓dLenO, ↓dNo, ↓dYesO, ↓dSlice, ↓SlD, ↓dIsi, ↓dIsi2, ↓cLen, ↓cAll, ↓cStr, ↓cInt, ↓cTuple, ↓dListOf, ↓dCat, ↓dJoin, ↓dFmt, ↓dJs, ↓dJoined, ↓dGetT, ↓dInT, ↓dRev1, ↓bRep, ↓q1_at, ↓q2_at, ↓q3_at, ↓popex, ↓atx0, ↓atx1, ↓atx2, ↓atx3, ↓reduceIte,
  wipeD, backD, isInt, cast_succ_ne, at0, at1, at2, at3, ex_some, cut1, eqvS, eqvI, shS, shI, flatD, popget, emp_app, down0, down1, down2, down3, List.dropLast_concat, List.all_cons, List.all_nil, Bool.and_true, decide_eq_true_eq, isTy, isNone, startD, startF, List.map_cons, List.map_nil, List.length_cons, List.length_nil, List.nil_append, List.cons_append, List.replicate, List.getElem?_cons_zero, List.getElem?_cons_succ, List.getElem?_nil, List.set_cons_zero, List.set_cons_succ, List.set_nil, Nat.zero_add, Nat.reduceAdd, Nat.reduceSub, Nat.reduceLT, Nat.reduceLeDiff, Int.reduceAdd, Int.reduceSub, Int.toNat_natCast, if_true, if_false, ite_true, ite_false, Bool.false_eq_true, Bool.not_true, Bool.not_false, Bool.true_eq_false, true_and, and_true, Nat.sub_self, Nat.sub_zero, Nat.reduceMul, List.replicate_zero, List.append_nil])
          exact ⟨a0, a1, fun es ee => by cases ee; exact h _ fs' m' rd' (by omega) (by omega) (ch_set rfl ok gx c rfl)⟩
        · by_cases v5 : v = 4
          · subst v5
            (simp (config := {maxSteps := 3000000}) only [Int.reduceLT, Int.reduceEq, ↓dSeq, ↓dIfS, ↓dRet, ↓dRetN, ↓dAsg, ↓dAsgO, ↓dSet_eq, ↓sc_n, ↓sc_d, ↓sc_o, ↓sc_y, ↓dDrop, ↓dAsgG, ↓dPar2, ↓dPar3, ↓dPopAt, ↓dInsert, ↓dRevL, ↓dRevT, ↓bRepS, ↓dgTup, ↓dgCons, ↓dgName, ↓dgNil, ↓dNext, ↓dBreak, ↓dCont, ↓dVar, ↓dC, ↓dOp, ↓dTest, ↓dAnd, ↓dOr, ↓dNot, ↓dAndV, ↓dOrV, ↓dNotV, ↓dIf, ↓dIfL, ↓dNil, ↓dCons, ↓dTup, ↓dLst, ↓dFrz, ↓dCall, ↓dCallP_h, ↓dCallF_h, ↓dCallN_h, ↓hid_1, ↓dSeqOf, ↓dRange1, ↓dRange2, ↓dEnum, ↓dZip, ↓dForD, ↓forD, ↓dLcD, ↓dYes, ↓dAppend, ↓dPop, ↓dExtend, ↓dSetItem, ↓dTruO, ↓bInt, ↓bAdd, ↓bAddB, ↓dNeg, ↓bEq, ↓bNe, ↓bIs, ↓bIsNot, ↓bLt, ↓bLe, ↓bGt, ↓bGe, ↓bOrd, ↓dChain, ↓bIn, ↓bIx, ↓dIxO, ↓dLenO, ↓dNo, ↓dYesO, ↓dSlice, ↓SlD, ↓dIsi, ↓dIsi2, ↓cLen, ↓cAll, ↓cStr, ↓cInt, ↓cTuple, ↓dListOf, ↓dCat, ↓dJoin, ↓dFmt, ↓dJs, ↓dJoined, ↓dGetT, ↓dInT, ↓dRev1, ↓bRep, ↓q1_at, ↓q2_at, ↓q3_at, ↓popex, ↓atx0, ↓atx1, ↓atx2, ↓atx3, ↓reduceIte,
  wipeD, backD, isInt, cast_succ_ne, at0, at1, at2, at3, ex_some, cut1, eqvS, eqvI, shS, shI, flatD, popget, emp_app, down0, down1, down2, down3, List.dropLast_concat, List.all_cons, List.all_nil, Bool.and_true, decide_eq_true_eq, isTy, isNone, startD, startF, List.map_cons, List.map_nil, List.length_cons, List.length_nil, List.nil_append, List.cons_append, List.replicate, List.getElem?_cons_zero, List.getElem?_cons_succ, List.getElem?_nil, List.set_cons_zero, List.set_cons_succ, List.set_nil, Nat.zero_add, Nat.reduceAdd, Nat.reduceSub, Nat.reduceLT, Nat.reduceLeDiff, Int.reduceAdd, Int.reduceSub, Int.toNat_natCast, if_true, if_false, ite_true, ite_false, Bool.false_eq_true, Bool.not_true, Bool.not_false, Bool.true_eq_false, true_and, and_true, Nat.sub_self, Nat.sub_zero, Nat.reduceMul, List.replicate_zero, List.append_nil])
            exact ⟨a0, a1, by omega, x, gx, fun es ee => by cases ee; exact h _ fsv _ rdv (by omega) (by omega) (ch_pop rfl ok rfl)⟩
          · by_cases v6 : v = 5
            · subst v6
              (simp (config := {maxSteps := 3000000}) only [Int.reduceLT, Int.reduceEq, ↓dSeq, ↓dIfS, ↓dRet, ↓dRetN, ↓dAsg, ↓dAsgO, ↓dSet_eq, ↓sc_n, ↓sc_d, ↓sc_o, ↓sc_y, ↓dDrop, ↓dAsgG, ↓dPar2, ↓dPar3, ↓dPopAt, ↓dInsert, ↓dRevL, ↓dRevT, ↓bRepS, ↓dgTup, ↓dgCons, ↓dgName, ↓dgNil, ↓dNext, ↓dBreak, ↓dCont, ↓dVar, ↓dC, ↓dOp, ↓dTest, ↓dAnd, ↓dOr, ↓dNot, ↓dAndV, ↓dOrV, ↓dNotV, ↓dIf, ↓dIfL, ↓dNil, ↓dCons, ↓dTup, ↓dLst, ↓dFrz, ↓dCall, ↓dCallP_h, ↓dCallF_h, ↓dCallN_h, ↓hid_1, ↓dSeqOf, ↓dRange1, ↓dRange2, ↓dEnum, ↓dZip, ↓dForD, ↓forD, ↓dLcD, ↓dYes, ↓dAppend, ↓dPop, ↓dExtend, ↓dSetItem, ↓dTruO, ↓bInt, ↓bAdd, ↓bAddB, ↓dNeg, ↓bEq, ↓bNe, ↓bIs, ↓bIsNot, ↓bLt, ↓bLe, ↓bGt, ↓bGe, ↓bOrd, ↓dChain, ↓bIn, ↓bIx, ↓dIxO, ↓dLenO, ↓dNo, ↓dYesO, ↓dSlice, ↓SlD, ↓dIsi, ↓dIsi2, ↓cLen, ↓cAll, ↓cStr, ↓cInt, ↓cTuple, ↓dListOf, ↓dCat, ↓dJoin, ↓dFmt, ↓dJs, ↓dJoined, ↓dGetT, ↓dInT, ↓dRev1, ↓bRep, ↓q1_at, ↓q2_at, ↓q3_at, ↓popex, ↓atx0, ↓atx1, ↓atx2, ↓atx3, ↓reduceIte,
  wipeD, backD, isInt, cast_succ_ne, at0, at1, at2, at3, ex_some, cut1, eqvS, eqvI, shS, shI, flatD, popget, emp_app, down0, down1, down2, down3, List.dropLast_concat, List.all_cons, List.all_nil, Bool.and_true, decide_eq_true_eq, isTy, isNone, startD, startF, List.map_cons, List.map_nil, List.length_cons, List.length_nil, List.nil_append, List.cons_append, List.replicate, List.getElem?_cons_zero, List.getElem?_cons_succ, List.getElem?_nil, List.set_cons_zero, List.set_cons_succ, List.set_nil, Nat.zero_add, Nat.reduceAdd, Nat.reduceSub, Nat.reduceLT, Nat.reduceLeDiff, Int.reduceAdd, Int.reduceSub, Int.toNat_natCast, if_true, if_false, ite_true, ite_false, Bool.false_eq_true, Bool.not_true, Bool.not_false, Bool.true_eq_false, true_and, and_true, Nat.sub_self, Nat.sub_zero, Nat.reduceMul, List.replicate_zero, List.append_nil])
              refine ⟨_, ((ds.length : Nat) : Int), rdv, by omega, by show _ < (1099511627776 : Int); omega, rfl, by omega, by omega, fun b fsb b0 b1 rdb => ?_⟩
              obtain ⟨y, ey, my, gy⟩ := at_in2 b0 b1
              have wy := wtL_mem my
              have dy : y.depth + 1 ≤ PyData.depth (.list ds) := by have := depth_mem my; rw [dp_itm (d := .list ds) rfl]; omega
              (simp (config := {maxSteps := 3000000}) only [↓dSeq, ↓dIfS, ↓dRet, ↓dRetN, ↓dAsg, ↓dAsgO, ↓dSet_eq, ↓sc_n, ↓sc_d, ↓sc_o, ↓sc_y, ↓dDrop, ↓dAsgG, ↓dPar2, ↓dPar3, ↓dPopAt, ↓dInsert, ↓dRevL, ↓dRevT, ↓bRepS, ↓dgTup, ↓dgCons, ↓dgName, ↓dgNil, ↓dNext, ↓dBreak, ↓dCont, ↓dVar, ↓dC, ↓dOp, ↓dTest, ↓dAnd, ↓dOr, ↓dNot, ↓dAndV, ↓dOrV, ↓dNotV, ↓dIf, ↓dIfL, ↓dNil, ↓dCons, ↓dTup, ↓dLst, ↓dFrz, ↓dCall, ↓dCallP_h, ↓dCallF_h, ↓dCallN_h, ↓hid_1, ↓dSeqOf, ↓dRange1, ↓dRange2, ↓dEnum, ↓dZip, ↓dForD, ↓forD, ↓dLcD, ↓dYes, ↓dAppend, ↓dPop, ↓dExtend, ↓dSetItem, ↓dTruO, ↓bInt, ↓bAdd, ↓bAddB, ↓dNeg, ↓bEq, ↓bNe, ↓bIs, ↓bIsNot, ↓bLt, ↓bLe, ↓bGt, ↓bGe, ↓bOrd, ↓dChain, ↓bIn, ↓bIx, ↓dIxO, ↓dLenO, ↓dNo, ↓dYesO, ↓dSlice, ↓SlD, ↓dIsi, ↓dIsi2, ↓cLen, ↓cAll, ↓cStr, ↓cInt, ↓cTuple, ↓dListOf, ↓dCat, ↓dJoin, ↓dFmt, ↓dJs, ↓dJoined, ↓dGetT, ↓dInT, ↓dRev1, ↓bRep, ↓q1_at, ↓q2_at, ↓q3_at, ↓popex, ↓atx0, ↓atx1, ↓atx2, ↓atx3, ↓reduceIte,
  wipeD, backD, isInt, cast_succ_ne, at0, at1, at2, at3, ex_some, cut1, eqvS, eqvI, shS, shI, flatD, popget, emp_app, down0, down1, down2, down3, List.dropLast_concat, List.all_cons, List.all_nil, Bool.and_true, decide_eq_true_eq, isTy, isNone, startD, startF, List.map_cons, List.map_nil, List.length_cons, List.length_nil, List.nil_append, List.cons_append, List.replicate, List.getElem?_cons_zero, List.getElem?_cons_succ, List.getElem?_nil, List.set_cons_zero, List.set_cons_succ, List.set_nil, Nat.zero_add, Nat.reduceAdd, Nat.reduceSub, Nat.reduceLT, Nat.reduceLeDiff, Int.reduceAdd, Int.reduceSub, Int.toNat_natCast, if_true, if_false, ite_true, ite_false, Bool.false_eq_true, Bool.not_true, Bool.not_false, Bool.true_eq_false, true_and, and_true, Nat.sub_self, Nat.sub_zero, Nat.reduceMul, List.replicate_zero, List.append_nil])
              exact ⟨y, ey, a0, by omega, by omega, fun es ee => by cases ee; exact h _ fsb _ rdb (by omega) (by omega) (ch_ins rfl ok (okV_le (Nat.le_succ _) (okVL_iff.mp ok' y my)) (by omega) (by omega) rfl)⟩
            · (simp (config := {maxSteps := 3000000}) only [v4, v5, v6, ↓dSeq, ↓dIfS, ↓dRet, ↓dRetN, ↓dAsg, ↓dAsgO, ↓dSet_eq, ↓sc_n, ↓sc_d, ↓sc_o, ↓sc_y, ↓dDrop, ↓dAsgG, ↓dPar2, ↓dPar3, ↓dPopAt, ↓dInsert, ↓dRevL, ↓dRevT, ↓bRepS, ↓dgTup, ↓dgCons, ↓dgName, ↓dgNil, ↓dNext, ↓dBreak, ↓dCont, ↓dVar, ↓dC, ↓dOp, ↓dTest, ↓dAnd, ↓dOr, ↓dNot, ↓dAndV, ↓dOrV, ↓dNotV, ↓dIf, ↓dIfL, ↓dNil, ↓dCons, ↓dTup, ↓dLst, ↓dFrz, ↓dCall, ↓dCallP_h, ↓dCallF_h, ↓dCallN_h, ↓hid_1, ↓dSeqOf, ↓dRange1, ↓dRange2, ↓dEnum, ↓dZip, ↓dForD, ↓forD, ↓dLcD, ↓dYes, ↓dAppend, ↓dPop, ↓dExtend, ↓dSetItem, ↓dTruO, ↓bInt, ↓bAdd, ↓bAddB, ↓dNeg, ↓bEq, ↓bNe, ↓bIs, ↓bIsNot, ↓bLt, ↓bLe, ↓bGt, ↓bGe, ↓bOrd, ↓dChain, ↓bIn, ↓bIx, ↓dIxO, ↓dLenO, ↓dNo, ↓dYesO, ↓dSlice, ↓SlD, ↓dIsi, ↓dIsi2, ↓cLen, ↓cAll, ↓cStr, ↓cInt, ↓cTuple, ↓dListOf, ↓dCat, ↓dJoin, ↓dFmt, ↓dJs, ↓dJoined, ↓dGetT, ↓dInT, ↓dRev1, ↓bRep, ↓q1_at, ↓q2_at, ↓q3_at, ↓popex, ↓atx0, ↓atx1, ↓atx2, ↓atx3, ↓reduceIte,
  wipeD, backD, isInt, cast_succ_ne, at0, at1, at2, at3, ex_some, cut1, eqvS, eqvI, shS, shI, flatD, popget, emp_app, down0, down1, down2, down3, List.dropLast_concat, List.all_cons, List.all_nil, Bool.and_true, decide_eq_true_eq, isTy, isNone, startD, startF, List.map_cons, List.map_nil, List.length_cons, List.length_nil, List.nil_append, List.cons_append, List.replicate, List.getElem?_cons_zero, List.getElem?_cons_succ, List.getElem?_nil, List.set_cons_zero, List.set_cons_succ, List.set_nil, Nat.zero_add, Nat.reduceAdd, Nat.reduceSub, Nat.reduceLT, Nat.reduceLeDiff, Int.reduceAdd, Int.reduceSub, Int.toNat_natCast, if_true, if_false, ite_true, ite_false, Bool.false_eq_true, Bool.not_true, Bool.not_false, Bool.true_eq_false, true_and, and_true, Nat.sub_self, Nat.sub_zero, Nat.reduceMul, List.replicate_zero, List.append_nil])
              refine ⟨_, ((menu.length : Nat) : Int), rdv, by omega, by show _ < (1099511627776 : Int); omega, rfl, by omega, by omega, fun b fsb b0 b1 rdb => ?_⟩
              obtain ⟨y, ey, my, gy⟩ := at_in2 b0 b1
              obtain ⟨oy, dy, wy⟩ := hm.ok y my
              (simp (config := {maxSteps := 3000000}) only [↓dSeq, ↓dIfS, ↓dRet, ↓dRetN, ↓dAsg, ↓dAsgO, ↓dSet_eq, ↓sc_n, ↓sc_d, ↓sc_o, ↓sc_y, ↓dDrop, ↓dAsgG, ↓dPar2, ↓dPar3, ↓dPopAt, ↓dInsert, ↓dRevL, ↓dRevT, ↓bRepS, ↓dgTup, ↓dgCons, ↓dgName, ↓dgNil, ↓dNext, ↓dBreak, ↓dCont, ↓dVar, ↓dC, ↓dOp, ↓dTest, ↓dAnd, ↓dOr, ↓dNot, ↓dAndV, ↓dOrV, ↓dNotV, ↓dIf, ↓dIfL, ↓dNil, ↓dCons, ↓dTup, ↓dLst, ↓dFrz, ↓dCall, ↓dCallP_h, ↓dCallF_h, ↓dCallN_h, ↓hid_1, ↓dSeqOf, ↓dRange1, ↓dRange2, ↓dEnum, ↓dZip, ↓dForD, ↓forD, ↓dLcD, ↓dYes, ↓dAppend, ↓dPop, ↓dExtend, ↓dSetItem, ↓dTruO, ↓bInt, ↓bAdd, ↓bAddB, ↓dNeg, ↓bEq, ↓bNe, ↓bIs, ↓bIsNot, ↓bLt, ↓bLe, ↓bGt, ↓bGe, ↓bOrd, ↓dChain, ↓bIn, ↓bIx, ↓dIxO, ↓dLenO, ↓dNo, ↓dYesO, ↓dSlice, ↓SlD, ↓dIsi, ↓dIsi2, ↓cLen, ↓cAll, ↓cStr, ↓cInt, ↓cTuple, ↓dListOf, ↓dCat, ↓dJoin, ↓dFmt, ↓dJs, ↓dJoined, ↓dGetT, ↓dInT, ↓dRev1, ↓bRep, ↓q1_at, ↓q2_at, ↓q3_at, ↓popex, ↓atx0, ↓atx1, ↓atx2, ↓atx3, ↓reduceIte,
  wipeD, backD, isInt, cast_succ_ne, at0, at1, at2, at3, ex_some, cut1, eqvS, eqvI, shS, shI, flatD, popget, emp_app, down0, down1, down2, down3, List.dropLast_concat, List.all_cons, List.all_nil, Bool.and_true, decide_eq_true_eq, isTy, isNone, startD, startF, List.map_cons, List.map_nil, List.length_cons, List.length_nil, List.nil_append, List.cons_append, List.replicate, List.getElem?_cons_zero, List.getElem?_cons_succ, List.getElem?_nil, List.set_cons_zero, List.set_cons_succ, List.set_nil, Nat.zero_add, Nat.reduceAdd, Nat.reduceSub, Nat.reduceLT, Nat.reduceLeDiff, Int.reduceAdd, Int.reduceSub, Int.toNat_natCast, if_true, if_false, ite_true, ite_false, Bool.false_eq_true, Bool.not_true, Bool.not_false, Bool.true_eq_false, true_and, and_true, Nat.sub_self, Nat.sub_zero, Nat.reduceMul, List.replicate_zero, List.append_nil])
              exact ⟨y, ey, a0, by omega, by omega, fun es ee => by cases ee; exact h _ fsb _ rdb (by omega) (by omega) (ch_ins rfl ok (okV_le (by omega) oy) (by omega) (by omega) rfl)⟩
      · rw [if_neg qu]
        refine ⟨_, 4, rdu, by omega, by show _ < (1099511627776 : Int); omega, rfl, by decide, by decide, fun r fsr r0 r1 rdr => ?_⟩
        by_cases q0 : r = 0
        · subst q0
          (simp (config := {maxSteps := 3000000}) only [↓dSeq, ↓dIfS, ↓dRet, ↓dRetN, ↓dAsg, ↓dAsgO, ↓dSet_eq, ↓sc_n, ↓sc_d, ↓sc_o, ↓sc_y, ↓dDrop, ↓dAsgG, ↓dPar2, ↓dPar3, ↓dPopAt, ↓dInsert, ↓dRevL, ↓dRevT, ↓bRepS, ↓dgTup, ↓dgCons, ↓dgName, ↓dgNil, ↓dNext, ↓dBreak, ↓dCont, ↓dVar, ↓dC, ↓dOp, ↓dTest, ↓dAnd, ↓dOr, ↓dNot, ↓dAndV, ↓dOrV, ↓dNotV, ↓dIf, ↓dIfL, ↓dNil, ↓dCons, ↓dTup, ↓dLst, ↓dFrz, ↓dCall, ↓dCallP_h, ↓dCallF_h, ↓dCallN_h, ↓hid_1, ↓dSeqOf, ↓dRange1, ↓dRange2, ↓dEnum, ↓dZip, ↓dForD, ↓forD, ↓dLcD, ↓dYes, ↓dAppend, ↓dPop, ↓dExtend, ↓dSetItem, ↓dTruO, ↓bInt, ↓bAdd, ↓bAddB, ↓dNeg, ↓bEq, ↓bNe, ↓bIs, ↓bIsNot, ↓bLt, ↓bLe, ↓bGt, ↓bGe, ↓bOrd, ↓dChain, ↓bIn, ↓bIx, ↓dIxO, ↓dLenO, ↓dNo, ↓dYesO, ↓dSlice, ↓SlD, ↓dIsi, ↓dIsi2, ↓cLen, ↓cAll, ↓cStr, ↓cInt, ↓cTuple, ↓dListOf, ↓dCat, ↓dJoin, ↓dFmt, ↓dJs, ↓dJoined, ↓dGetT, ↓dInT, ↓dRev1, ↓bRep, ↓q1_at, ↓q2_at, ↓q3_at, ↓popex, ↓atx0, ↓atx1, ↓atx2, ↓atx3, ↓reduceIte,
  wipeD, backD, isInt, cast_succ_ne, at0, at1, at2, at3, ex_some, cut1, eqvS, eqvI, shS, shI, flatD, popget, emp_app, down0, down1, down2, down3, List.dropLast_concat, List.all_cons, List.all_nil, Bool.and_true, decide_eq_true_eq, isTy, isNone, startD, startF, List.map_cons, List.map_nil, List.length_cons, List.length_nil, List.nil_append, List.cons_append, List.replicate, List.getElem?_cons_zero, List.getElem?_cons_succ, List.getElem?_nil, List.set_cons_zero, List.set_cons_succ, List.set_nil, Nat.zero_add, Nat.reduceAdd, Nat.reduceSub, Nat.reduceLT, Nat.reduceLeDiff, Int.reduceAdd, Int.reduceSub, Int.toNat_natCast, if_true, if_false, ite_true, ite_false, Bool.false_eq_true, Bool.not_true, Bool.not_false, Bool.true_eq_false, true_and, and_true, Nat.sub_self, Nat.sub_zero, Nat.reduceMul, List.replicate_zero, List.append_nil])
          exact fun es ee => by cases ee; exact h _ fsr _ rdr (by omega) (by omega) (ch_turn rfl ok rfl)
        · by_cases q1 : r = 1
          · subst q1
            (simp (config := {maxSteps := 3000000}) only [↓dSeq, ↓dIfS, ↓dRet, ↓dRetN, ↓dAsg, ↓dAsgO, ↓dSet_eq, ↓sc_n, ↓sc_d, ↓sc_o, ↓sc_y, ↓dDrop, ↓dAsgG, ↓dPar2, ↓dPar3, ↓dPopAt, ↓dInsert, ↓dRevL, ↓dRevT, ↓bRepS, ↓dgTup, ↓dgCons, ↓dgName, ↓dgNil, ↓dNext, ↓dBreak, ↓dCont, ↓dVar, ↓dC, ↓dOp, ↓dTest, ↓dAnd, ↓dOr, ↓dNot, ↓dAndV, ↓dOrV, ↓dNotV, ↓dIf, ↓dIfL, ↓dNil, ↓dCons, ↓dTup, ↓dLst, ↓dFrz, ↓dCall, ↓dCallP_h, ↓dCallF_h, ↓dCallN_h, ↓hid_1, ↓dSeqOf, ↓dRange1, ↓dRange2, ↓dEnum, ↓dZip, ↓dForD, ↓forD, ↓dLcD, ↓dYes, ↓dAppend, ↓dPop, ↓dExtend, ↓dSetItem, ↓dTruO, ↓bInt, ↓bAdd, ↓bAddB, ↓dNeg, ↓bEq, ↓bNe, ↓bIs, ↓bIsNot, ↓bLt, ↓bLe, ↓bGt, ↓bGe, ↓bOrd, ↓dChain, ↓bIn, ↓bIx, ↓dIxO, ↓dLenO, ↓dNo, ↓dYesO, ↓dSlice, ↓SlD, ↓dIsi, ↓dIsi2, ↓cLen, ↓cAll, ↓cStr, ↓cInt, ↓cTuple, ↓dListOf, ↓dCat, ↓dJoin, ↓dFmt, ↓dJs, ↓dJoined, ↓dGetT, ↓dInT, ↓dRev1, ↓bRep, ↓q1_at, ↓q2_at, ↓q3_at, ↓popex, ↓atx0, ↓atx1, ↓atx2, ↓atx3, ↓reduceIte,
  wipeD, backD, isInt, cast_succ_ne, at0, at1, at2, at3, ex_some, cut1, eqvS, eqvI, shS, shI, flatD, popget, emp_app, down0, down1, down2, down3, List.dropLast_concat, List.all_cons, List.all_nil, Bool.and_true, decide_eq_true_eq, isTy, isNone, startD, startF, List.map_cons, List.map_nil, List.length_cons, List.length_nil, List.nil_append, List.cons_append, List.replicate, List.getElem?_cons_zero, List.getElem?_cons_succ, List.getElem?_nil, List.set_cons_zero, List.set_cons_succ, List.set_nil, Nat.zero_add, Nat.reduceAdd, Nat.reduceSub, Nat.reduceLT, Nat.reduceLeDiff, Int.reduceAdd, Int.reduceSub, Int.toNat_natCast, if_true, if_false, ite_true, ite_false, Bool.false_eq_true, Bool.not_true, Bool.not_false, Bool.true_eq_false, true_and, and_true, Nat.sub_self, Nat.sub_zero, Nat.reduceMul, List.replicate_zero, List.append_nil])
            refine ⟨_, ((menu.length : Nat) : Int), rdr, by omega, by show _ < (1099511627776 : Int); omega, rfl, by omega, by omega, fun ra fsa ra0 ra1 rda => ?_⟩
            (simp (config := {maxSteps := 3000000}) only [↓dSeq, ↓dIfS, ↓dRet, ↓dRetN, ↓dAsg, ↓dAsgO, ↓dSet_eq, ↓sc_n, ↓sc_d, ↓sc_o, ↓sc_y, ↓dDrop, ↓dAsgG, ↓dPar2, ↓dPar3, ↓dPopAt, ↓dInsert, ↓dRevL, ↓dRevT, ↓bRepS, ↓dgTup, ↓dgCons, ↓dgName, ↓dgNil, ↓dNext, ↓dBreak, ↓dCont, ↓dVar, ↓dC, ↓dOp, ↓dTest, ↓dAnd, ↓dOr, ↓dNot, ↓dAndV, ↓dOrV, ↓dNotV, ↓dIf, ↓dIfL, ↓dNil, ↓dCons, ↓dTup, ↓dLst, ↓dFrz, ↓dCall, ↓dCallP_h, ↓dCallF_h, ↓dCallN_h, ↓hid_1, ↓dSeqOf, ↓dRange1, ↓dRange2, ↓dEnum, ↓dZip, ↓dForD, ↓forD, ↓dLcD, ↓dYes, ↓dAppend, ↓dPop, ↓dExtend, ↓dSetItem, ↓dTruO, ↓bInt, ↓bAdd, ↓bAddB, ↓dNeg, ↓bEq, ↓bNe, ↓bIs, ↓bIsNot, ↓bLt, ↓bLe, ↓bGt, ↓bGe, ↓bOrd, ↓dChain, ↓bIn, ↓bIx, ↓dIxO, ↓dLenO, ↓dNo, ↓dYesO, ↓dSlice, ↓SlD, ↓dIsi, ↓dIsi2, ↓cLen, ↓cAll, ↓cStr, ↓cInt, ↓cTuple, ↓dListOf, ↓dCat, ↓dJoin, ↓dFmt, ↓dJs, ↓dJoined, ↓dGetT, ↓dInT, ↓dRev1, ↓bRep, ↓q1_at, ↓q2_at, ↓q3_at, ↓popex, ↓atx0, ↓atx1, ↓atx2, ↓atx3, ↓reduceIte,
  wipeD, backD, isInt, cast_succ_ne, at0, at1, at2, at3, ex_some, cut1, eqvS, eqvI, shS, shI, flatD, popget, emp_app, down0, down1, down2, down3, List.dropLast_concat, List.all_cons, List.all_nil, Bool.and_true, decide_eq_true_eq, isTy, isNone, startD, startF, List.map_cons, List.map_nil, List.length_cons, List.length_nil, List.nil_append, List.cons_append, List.replicate, List.getElem?_cons_zero, List.getElem?_cons_succ, List.getElem?_nil, List.set_cons_zero, List.set_cons_succ, List.set_nil, Nat.zero_add, Nat.reduceAdd, Nat.reduceSub, Nat.reduceLT, Nat.reduceLeDiff, Int.reduceAdd, Int.reduceSub, Int.toNat_natCast, if_true, if_false, ite_true, ite_false, Bool.false_eq_true, Bool.not_true, Bool.not_false, Bool.true_eq_false, true_and, and_true, Nat.sub_self, Nat.sub_zero, Nat.reduceMul, List.replicate_zero, List.append_nil])
            obtain ⟨z, ez, mz⟩ := at_in ra0 ra1
            exact ⟨z, ez, fun es ee => by cases ee; exact h z fsa _ rda (by omega) (by omega) (ch_menu hm he mz)⟩
          · (simp (config := {maxSteps := 3000000}) only [q0, q1, ↓dSeq, ↓dIfS, ↓dRet, ↓dRetN, ↓dAsg, ↓dAsgO, ↓dSet_eq, ↓sc_n, ↓sc_d, ↓sc_o, ↓sc_y, ↓dDrop, ↓dAsgG, ↓dPar2, ↓dPar3, ↓dPopAt, ↓dInsert, ↓dRevL, ↓dRevT, ↓bRepS, ↓dgTup, ↓dgCons, ↓dgName, ↓dgNil, ↓dNext, ↓dBreak, ↓dCont, ↓dVar, ↓dC, ↓dOp, ↓dTest, ↓dAnd, ↓dOr, ↓dNot, ↓dAndV, ↓dOrV, ↓dNotV, ↓dIf, ↓dIfL, ↓dNil, ↓dCons, ↓dTup, ↓dLst, ↓dFrz, ↓dCall, ↓dCallP_h, ↓dCallF_h, ↓dCallN_h, ↓hid_1, ↓dSeqOf, ↓dRange1, ↓dRange2, ↓dEnum, ↓dZip, ↓dForD, ↓forD, ↓dLcD, ↓dYes, ↓dAppend, ↓dPop, ↓dExtend, ↓dSetItem, ↓dTruO, ↓bInt, ↓bAdd, ↓bAddB, ↓dNeg, ↓bEq, ↓bNe, ↓bIs, ↓bIsNot, ↓bLt, ↓bLe, ↓bGt, ↓bGe, ↓bOrd, ↓dChain, ↓bIn, ↓bIx, ↓dIxO, ↓dLenO, ↓dNo, ↓dYesO, ↓dSlice, ↓SlD, ↓dIsi, ↓dIsi2, ↓cLen, ↓cAll, ↓cStr, ↓cInt, ↓cTuple, ↓dListOf, ↓dCat, ↓dJoin, ↓dFmt, ↓dJs, ↓dJoined, ↓dGetT, ↓dInT, ↓dRev1, ↓bRep, ↓q1_at, ↓q2_at, ↓q3_at, ↓popex, ↓atx0, ↓atx1, ↓atx2, ↓atx3, ↓reduceIte,
  wipeD, backD, isInt, cast_succ_ne, at0, at1, at2, at3, ex_some, cut1, eqvS, eqvI, shS, shI, flatD, popget, emp_app, down0, down1, down2, down3, List.dropLast_concat, List.all_cons, List.all_nil, Bool.and_true, decide_eq_true_eq, isTy, isNone, startD, startF, List.map_cons, List.map_nil, List.length_cons, List.length_nil, List.nil_append, List.cons_append, List.replicate, List.getElem?_cons_zero, List.getElem?_cons_succ, List.getElem?_nil, List.set_cons_zero, List.set_cons_succ, List.set_nil, Nat.zero_add, Nat.reduceAdd, Nat.reduceSub, Nat.reduceLT, Nat.reduceLeDiff, Int.reduceAdd, Int.reduceSub, Int.toNat_natCast, if_true, if_false, ite_true, ite_false, Bool.false_eq_true, Bool.not_true, Bool.not_false, Bool.true_eq_false, true_and, and_true, Nat.sub_self, Nat.sub_zero, Nat.reduceMul, List.replicate_zero, List.append_nil])
            refine ⟨_, ((menu.length : Nat) : Int), rdr, by omega, by show _ < (1099511627776 : Int); omega, rfl, by omega, by omega, fun ra fsa ra0 ra1 rda => ?_⟩
            (simp (config := {maxSteps := 3000000}) only [↓dSeq, ↓dIfS, ↓dRet, ↓dRetN, ↓dAsg, ↓dAsgO, ↓dSet_eq, ↓sc_n, ↓sc_d, ↓sc_o, ↓sc_y, ↓dDrop, ↓dAsgG, ↓dPar2, ↓dPar3, ↓dPopAt, ↓dInsert, ↓dRevL, ↓dRevT, ↓bRepS, ↓dgTup, ↓dgCons, ↓dgName, ↓dgNil, ↓dNext, ↓dBreak, ↓dCont, ↓dVar, ↓dC, ↓dOp, ↓dTest, ↓dAnd, ↓dOr, ↓dNot, ↓dAndV, ↓dOrV, ↓dNotV, ↓dIf, ↓dIfL, ↓dNil, ↓dCons, ↓dTup, ↓dLst, ↓dFrz, ↓dCall, ↓dCallP_h, ↓dCallF_h, ↓dCallN_h, ↓hid_1, ↓dSeqOf, ↓dRange1, ↓dRange2, ↓dEnum, ↓dZip, ↓dForD, ↓forD, ↓dLcD, ↓dYes, ↓dAppend, ↓dPop, ↓dExtend, ↓dSetItem, ↓dTruO, ↓bInt, ↓bAdd, ↓bAddB, ↓dNeg, ↓bEq, ↓bNe, ↓bIs, ↓bIsNot, ↓bLt, ↓bLe, ↓bGt, ↓bGe, ↓bOrd, ↓dChain, ↓bIn, ↓bIx, ↓dIxO, ↓dLenO, ↓dNo, ↓dYesO, ↓dSlice, ↓SlD, ↓dIsi, ↓dIsi2, ↓cLen, ↓cAll, ↓cStr, ↓cInt, ↓cTuple, ↓dListOf, ↓dCat, ↓dJoin, ↓dFmt, ↓dJs, ↓dJoined, ↓dGetT, ↓dInT, ↓dRev1, ↓bRep, ↓q1_at, ↓q2_at, ↓q3_at, ↓popex, ↓atx0, ↓atx1, ↓atx2, ↓atx3, ↓reduceIte,
  wipeD, backD, isInt, cast_succ_ne, at0, at1, at2, at3, ex_some, cut1, eqvS, eqvI, shS, shI, flatD, popget, emp_app, down0, down1, down2, down3, List.dropLast_concat, List.all_cons, List.all_nil, Bool.and_true, decide_eq_true_eq, isTy, isNone, startD, startF, List.map_cons, List.map_nil, List.length_cons, List.length_nil, List.nil_append, List.cons_append, List.replicate, List.getElem?_cons_zero, List.getElem?_cons_succ, List.getElem?_nil, List.set_cons_zero, List.set_cons_succ, List.set_nil, Nat.zero_add, Nat.reduceAdd, Nat.reduceSub, Nat.reduceLT, Nat.reduceLeDiff, Int.reduceAdd, Int.reduceSub, Int.toNat_natCast, if_true, if_false, ite_true, ite_false, Bool.false_eq_true, Bool.not_true, Bool.not_false, Bool.true_eq_false, true_and, and_true, Nat.sub_self, Nat.sub_zero, Nat.reduceMul, List.replicate_zero, List.append_nil])
            obtain ⟨z, ez, mz⟩ := at_in ra0 ra1
            exact ⟨z, ez, fun es ee => by cases ee; exact h z fsa _ rda (by omega) (by omega) (ch_menu hm he mz)⟩
  | tuple ds =>
    walk_at "st T1c"
    cases ds with
    | nil =>
      (simp (config := {maxSteps := 3000000}) only [↓dSeq, ↓dIfS, ↓dRet, ↓dRetN, ↓dAsg, ↓dAsgO, ↓dSet_eq, ↓sc_n, ↓sc_d, ↓sc_o, ↓sc_y, ↓dDrop, ↓dAsgG, ↓dPar2, ↓dPar3, ↓dPopAt, ↓dInsert, ↓dRevL, ↓dRevT, ↓bRepS, ↓dgTup, ↓dgCons, ↓dgName, ↓dgNil, ↓dNext, ↓dBreak, ↓dCont, ↓dVar, ↓dC, ↓dOp, ↓dTest, ↓dAnd, ↓dOr, ↓dNot, ↓dAndV, ↓dOrV, ↓dNotV, ↓dIf, ↓dIfL, ↓dNil, ↓dCons, ↓dTup, ↓dLst, ↓dFrz, ↓dCall, ↓dCallP_h, ↓dCallF_h, ↓dCallN_h, ↓hid_1, ↓dSeqOf, ↓dRange1, ↓dRange2, ↓dEnum, ↓dZip, ↓dForD, ↓forD, ↓dLcD, ↓dYes, ↓dAppend, ↓dPop, ↓dExtend, ↓dSetItem, ↓dTruO, ↓bInt, ↓bAdd, ↓bAddB, ↓dNeg, ↓bEq, ↓bNe, ↓bIs, ↓bIsNot, ↓bLt, ↓bLe, ↓bGt, ↓bGe, ↓bOrd, ↓dChain, ↓bIn, ↓bIx, ↓dIxO, ↓dLenO, ↓dNo, ↓dYesO, ↓dSlice, ↓SlD, ↓dIsi, ↓dIsi2, ↓cLen, ↓cAll, ↓cStr, ↓cInt, ↓cTuple, ↓dListOf, ↓dCat, ↓dJoin, ↓dFmt, ↓dJs, ↓dJoined, ↓dGetT, ↓dInT, ↓dRev1, ↓bRep, ↓q1_at, ↓q2_at, ↓q3_at, ↓popex, ↓atx0, ↓atx1, ↓atx2, ↓atx3, ↓reduceIte,
  wipeD, backD, isInt, cast_succ_ne, at0, at1, at2, at3, ex_some, cut1, eqvS, eqvI, shS, shI, flatD, popget, emp_app, down0, down1, down2, down3, List.dropLast_concat, List.all_cons, List.all_nil, Bool.and_true, decide_eq_true_eq, isTy, isNone, startD, startF, List.map_cons, List.map_nil, List.length_cons, List.length_nil, List.nil_append, List.cons_append, List.replicate, List.getElem?_cons_zero, List.getElem?_cons_succ, List.getElem?_nil, List.set_cons_zero, List.set_cons_succ, List.set_nil, Nat.zero_add, Nat.reduceAdd, Nat.reduceSub, Nat.reduceLT, Nat.reduceLeDiff, Int.reduceAdd, Int.reduceSub, Int.toNat_natCast, if_true, if_false, ite_true, ite_false, Bool.false_eq_true, Bool.not_true, Bool.not_false, Bool.true_eq_false, true_and, and_true, Nat.sub_self, Nat.sub_zero, Nat.reduceMul, List.replicate_zero, List.append_nil])
      refine ⟨_, 4, rd, by omega, by show _ < (1099511627776 : Int); omega, rfl, by decide, by decide, fun r fsr r0 r1 rdr => ?_⟩
      by_cases q0 : r = 0
      · subst q0
        (simp (config := {maxSteps := 3000000}) only [↓dSeq, ↓dIfS, ↓dRet, ↓dRetN, ↓dAsg, ↓dAsgO, ↓dSet_eq, ↓sc_n, ↓sc_d, ↓sc_o, ↓sc_y, ↓dDrop, ↓dAsgG, ↓dPar2, ↓dPar3, ↓dPopAt, ↓dInsert, ↓dRevL, ↓dRevT, ↓bRepS, ↓dgTup, ↓dgCons, ↓dgName, ↓dgNil, ↓dNext, ↓dBreak, ↓dCont, ↓dVar, ↓dC, ↓dOp, ↓dTest, ↓dAnd, ↓dOr, ↓dNot, ↓dAndV, ↓dOrV, ↓dNotV, ↓dIf, ↓dIfL, ↓dNil, ↓dCons, ↓dTup, ↓dLst, ↓dFrz, ↓dCall, ↓dCallP_h, ↓dCallF_h, ↓dCallN_h, ↓hid_1, ↓dSeqOf, ↓dRange1, ↓dRange2, ↓dEnum, ↓dZip, ↓dForD, ↓forD, ↓dLcD, ↓dYes, ↓dAppend, ↓dPop, ↓dExtend, ↓dSetItem, ↓dTruO, ↓bInt, ↓bAdd, ↓bAddB, ↓dNeg, ↓bEq, ↓bNe, ↓bIs, ↓bIsNot, ↓bLt, ↓bLe, ↓bGt, ↓bGe, ↓bOrd, ↓dChain, ↓bIn, ↓bIx, ↓dIxO, ↓dLenO, ↓dNo, ↓dYesO, ↓dSlice, ↓SlD, ↓dIsi, ↓dIsi2, ↓cLen, ↓cAll, ↓cStr, ↓cInt, ↓cTuple, ↓dListOf, ↓dCat, ↓dJoin, ↓dFmt, ↓dJs, ↓dJoined, ↓dGetT, ↓dInT, ↓dRev1, ↓bRep, ↓q1_at, ↓q2_at, ↓q3_at, ↓popex, ↓atx0, ↓atx1, ↓atx2, ↓atx3, ↓reduceIte,
  wipeD, backD, isInt, cast_succ_ne, at0, at1, at2, at3, ex_some, cut1, eqvS, eqvI, shS, shI, flatD, popget, emp_app, down0, down1, down2, down3, List.dropLast_concat, List.all_cons, List.all_nil, Bool.and_true, decide_eq_true_eq, isTy, isNone, startD, startF, List.map_cons, List.map_nil, List.length_cons, List.length_nil, List.nil_append, List.cons_append, List.replicate, List.getElem?_cons_zero, List.getElem?_cons_succ, List.getElem?_nil, List.set_cons_zero, List.set_cons_succ, List.set_nil, Nat.zero_add, Nat.reduceAdd, Nat.reduceSub, Nat.reduceLT, Nat.reduceLeDiff, Int.reduceAdd, Int.reduceSub, Int.toNat_natCast, if_true, if_false, ite_true, ite_false, Bool.false_eq_true, Bool.not_true, Bool.not_false, Bool.true_eq_false, true_and, and_true, Nat.sub_self, Nat.sub_zero, Nat.reduceMul, List.replicate_zero, List.append_nil])
        exact fun es ee => by cases ee; exact h _ fsr _ rdr (by omega) (by omega) (ch_turn rfl ok rfl)
      · by_cases q1 : r = 1
        · subst q1
          (simp (config := {maxSteps := 3000000}) only [↓dSeq, ↓dIfS, ↓dRet, ↓dRetN, ↓dAsg, ↓dAsgO, ↓dSet_eq, ↓sc_n, ↓sc_d, ↓sc_o, ↓sc_y, ↓dDrop, ↓dAsgG, ↓dPar2, ↓dPar3, ↓dPopAt, ↓dInsert, ↓dRevL, ↓dRevT, ↓bRepS, ↓dgTup, ↓dgCons, ↓dgName, ↓dgNil, ↓dNext, ↓dBreak, ↓dCont, ↓dVar, ↓dC, ↓dOp, ↓dTest, ↓dAnd, ↓dOr, ↓dNot, ↓dAndV, ↓dOrV, ↓dNotV, ↓dIf, ↓dIfL, ↓dNil, ↓dCons, ↓dTup, ↓dLst, ↓dFrz, ↓dCall, ↓dCallP_h, ↓dCallF_h, ↓dCallN_h, ↓hid_1, ↓dSeqOf, ↓dRange1, ↓dRange2, ↓dEnum, ↓dZip, ↓dForD, ↓forD, ↓dLcD, ↓dYes, ↓dAppend, ↓dPop, ↓dExtend, ↓dSetItem, ↓dTruO, ↓bInt, ↓bAdd, ↓bAddB, ↓dNeg, ↓bEq, ↓bNe, ↓bIs, ↓bIsNot, ↓bLt, ↓bLe, ↓bGt, ↓bGe, ↓bOrd, ↓dChain, ↓bIn, ↓bIx, ↓dIxO, ↓dLenO, ↓dNo, ↓dYesO, ↓dSlice, ↓SlD, ↓dIsi, ↓dIsi2, ↓cLen, ↓cAll, ↓cStr, ↓cInt, ↓cTuple, ↓dListOf, ↓dCat, ↓dJoin, ↓dFmt, ↓dJs, ↓dJoined, ↓dGetT, ↓dInT, ↓dRev1, ↓bRep, ↓q1_at, ↓q2_at, ↓q3_at, ↓popex, ↓atx0, ↓atx1, ↓atx2, ↓atx3, ↓reduceIte,
  wipeD, backD, isInt, cast_succ_ne, at0, at1, at2, at3, ex_some, cut1, eqvS, eqvI, shS, shI, flatD, popget, emp_app, down0, down1, down2, down3, List.dropLast_concat, List.all_cons, List.all_nil, Bool.and_true, decide_eq_true_eq, isTy, isNone, startD, startF, List.map_cons, List.map_nil, List.length_cons, List.length_nil, List.nil_append, List.cons_append, List.replicate, List.getElem?_cons_zero, List.getElem?_cons_succ, List.getElem?_nil, List.set_cons_zero, List.set_cons_succ, List.set_nil, Nat.zero_add, Nat.reduceAdd, Nat.reduceSub, Nat.reduceLT, Nat.reduceLeDiff, Int.reduceAdd, Int.reduceSub, Int.toNat_natCast, if_true, if_false, ite_true, ite_false, Bool.false_eq_true, Bool.not_true, Bool.not_false, Bool.true_eq_false, true_and, and_true, Nat.sub_self, Nat.sub_zero, Nat.reduceMul, List.replicate_zero, List.append_nil])
          refine ⟨_, ((menu.length : Nat) : Int), rdr, by omega, by show _ < (1099511627776 : Int); omega, rfl, by omega, by omega, fun ra fsa ra0 ra1 rda => ?_⟩
          (simp (config := {maxSteps := 3000000}) only [↓dSeq, ↓dIfS, ↓dRet, ↓dRetN, ↓dAsg, ↓dAsgO, ↓dSet_eq, ↓sc_n, ↓sc_d, ↓sc_o, ↓sc_y, ↓dDrop, ↓dAsgG, ↓dPar2, ↓dPar3, ↓dPopAt, ↓dInsert, ↓dRevL, ↓dRevT, ↓bRepS, ↓dgTup, ↓dgCons, ↓dgName, ↓dgNil, ↓dNext, ↓dBreak, ↓dCont, ↓dVar, ↓dC, ↓dOp, ↓dTest, ↓dAnd, ↓dOr, ↓dNot, ↓dAndV, ↓dOrV, ↓dNotV, ↓dIf, ↓dIfL, ↓dNil, ↓dCons, ↓dTup, ↓dLst, ↓dFrz, ↓dCall, ↓dCallP_h, ↓dCallF_h, ↓dCallN_h, ↓hid_1, ↓dSeqOf, ↓dRange1, ↓dRange2, ↓dEnum, ↓dZip, ↓dForD, ↓forD, ↓dLcD, ↓dYes, ↓dAppend, ↓dPop, ↓dExtend, ↓dSetItem, ↓dTruO, ↓bInt, ↓bAdd, ↓bAddB, ↓dNeg, ↓bEq, ↓bNe, ↓bIs, ↓bIsNot, ↓bLt, ↓bLe, ↓bGt, ↓bGe, ↓bOrd, ↓dChain, ↓bIn, ↓bIx, ↓dIxO, ↓dLenO, ↓dNo, ↓dYesO, ↓dSlice, ↓SlD, ↓dIsi, ↓dIsi2, ↓cLen, ↓cAll, ↓cStr, ↓cInt, ↓cTuple, ↓dListOf, ↓dCat, ↓dJoin, ↓dFmt, ↓dJs, ↓dJoined, ↓dGetT, ↓dInT, ↓dRev1, ↓bRep, ↓q1_at, ↓q2_at, ↓q3_at, ↓popex, ↓atx0, ↓atx1, ↓atx2, ↓atx3, ↓reduceIte,
  wipeD, backD, isInt, cast_succ_ne, at0, at1, at2, at3, ex_some, cut1, eqvS, eqvI, shS, shI, flatD, popget, emp_app, down0, down1, down2, down3, List.dropLast_concat, List.all_cons, List.all_nil, Bool.and_true, decide_eq_true_eq, isTy, isNone, startD, startF, List.map_cons, List.map_nil, List.length_cons, List.length_nil, List.nil_append, List.cons_append, List.replicate, List.getElem?_cons_zero, List.getElem?_cons_succ, List.getElem?_nil, List.set_cons_zero, List.set_cons_succ, List.set_nil, Nat.zero_add, Nat.reduceAdd, Nat.reduceSub, Nat.reduceLT, Nat.reduceLeDiff, Int.reduceAdd, Int.reduceSub, Int.toNat_natCast, if_true, if_false, ite_true, ite_false, Bool.false_eq_true, Bool.not_true, Bool.not_false, Bool.true_eq_false, true_and, and_true, Nat.sub_self, Nat.sub_zero, Nat.reduceMul, List.replicate_zero, List.append_nil])
          obtain ⟨z, ez, mz⟩ := at_in ra0 ra1
          exact ⟨z, ez, fun es ee => by cases ee; exact h z fsa _ rda (by omega) (by omega) (ch_menu hm he mz)⟩
        · (simp (config := {maxSteps := 3000000}) only [q0, q1, ↓dSeq, ↓dIfS, ↓dRet, ↓dRetN, ↓dAsg, ↓dAsgO, ↓dSet_eq, ↓sc_n, ↓sc_d, ↓sc_o, ↓sc_y, ↓dDrop, ↓dAsgG, ↓dPar2, ↓dPar3, ↓dPopAt, ↓dInsert, ↓dRevL, ↓dRevT, ↓bRepS, ↓dgTup, ↓dgCons, ↓dgName, ↓dgNil, ↓dNext, ↓dBreak, ↓dCont, ↓dVar, ↓dC, ↓dOp, ↓dTest, ↓dAnd, ↓dOr, ↓dNot, ↓dAndV, ↓dOrV, ↓dNotV, ↓dIf, ↓dIfL, ↓dNil, ↓dCons, ↓dTup, ↓dLst, ↓dFrz, ↓dCall, ↓dCallP_h, ↓dCallF_h, ↓dCallN_h, ↓hid_1, ↓dSeqOf, ↓dRange1, ↓dRange2, ↓dEnum, ↓dZip, ↓dForD, ↓forD, ↓dLcD, ↓dYes, ↓dAppend, ↓dPop, ↓dExtend, ↓dSetItem, ↓dTruO, ↓bInt, ↓bAdd, ↓bAddB, ↓dNeg, ↓bEq, ↓bNe, ↓bIs, ↓bIsNot, ↓bLt, ↓bLe, ↓bGt, ↓bGe, ↓bOrd, ↓dChain, ↓bIn, ↓bIx, ↓dIxO, ↓dLenO, ↓dNo, ↓dYesO, ↓dSlice, ↓SlD, ↓dIsi, ↓dIsi2, ↓cLen, ↓cAll, ↓cStr, ↓cInt, ↓cTuple, ↓dListOf, ↓dCat, ↓dJoin, ↓dFmt, ↓dJs, ↓dJoined, ↓dGetT, ↓dInT, ↓dRev1, ↓bRep, ↓q1_at, ↓q2_at, ↓q3_at, ↓popex, ↓atx0, ↓atx1, ↓atx2, ↓atx3, ↓reduceIte,
  wipeD, backD, isInt, cast_succ_ne, at0, at1, at2, at3, ex_some, cut1, eqvS, eqvI, shS, shI, flatD, popget, emp_app, down0, down1, down2, down3, List.dropLast_concat, List.all_cons, List.all_nil, Bool.and_true, decide_eq_true_eq, isTy, isNone, startD, startF, List.map_cons, List.map_nil, List.length_cons, List.length_nil, List.nil_append, List.cons_append, List.replicate, List.getElem?_cons_zero, List.getElem?_cons_succ, List.getElem?_nil, List.set_cons_zero, List.set_cons_succ, List.set_nil, Nat.zero_add, Nat.reduceAdd, Nat.reduceSub, Nat.reduceLT, Nat.reduceLeDiff, Int.reduceAdd, Int.reduceSub, Int.toNat_natCast, if_true, if_false, ite_true, ite_false, Bool.false_eq_true, Bool.not_true, Bool.not_false, Bool.true_eq_false, true_and, and_true, Nat.sub_self, Nat.sub_zero, Nat.reduceMul, List.replicate_zero, List.append_nil])
          refine ⟨_, ((menu.length : Nat) : Int), rdr, by omega, by show _ < (1099511627776 : Int); omega, rfl, by omega, by omega, fun ra fsa ra0 ra1 rda => ?_⟩
          (simp (config := {maxSteps := 3000000}) only [↓dSeq, ↓dIfS, ↓dRet, ↓dRetN, ↓dAsg, ↓dAsgO, ↓dSet_eq, ↓sc_n, ↓sc_d, ↓sc_o, ↓sc_y, ↓dDrop, ↓dAsgG, ↓dPar2, ↓dPar3, ↓dPopAt, ↓dInsert, ↓dRevL, ↓dRevT, ↓bRepS, ↓dgTup, ↓dgCons, ↓dgName, ↓dgNil, ↓dNext, ↓dBreak, ↓dCont, ↓dVar, ↓dC, ↓dOp, ↓dTest, ↓dAnd, ↓dOr, ↓dNot, ↓dAndV, ↓dOrV, ↓dNotV, ↓dIf, ↓dIfL, ↓dNil, ↓dCons, ↓dTup, ↓dLst, ↓dFrz, ↓dCall, ↓dCallP_h, ↓dCallF_h, ↓dCallN_h, ↓hid_1, ↓dSeqOf, ↓dRange1, ↓dRange2, ↓dEnum, ↓dZip, ↓dForD, ↓forD, ↓dLcD, ↓dYes, ↓dAppend, ↓dPop, ↓dExtend, ↓dSetItem, ↓dTruO, ↓bInt, ↓bAdd, ↓bAddB, ↓dNeg, ↓bEq, ↓bNe, ↓bIs, ↓bIsNot, ↓bLt, ↓bLe, ↓bGt, ↓bGe, ↓bOrd, ↓dChain, ↓bIn, ↓bIx, ↓dIxO, ↓dLenO, ↓dNo, ↓dYesO, ↓dSlice, ↓SlD, ↓dIsi, ↓dIsi2, ↓cLen, ↓cAll, ↓cStr, ↓cInt, ↓cTuple, ↓dListOf, ↓dCat, ↓dJoin, ↓dFmt, ↓dJs, ↓dJoined, ↓dGetT, ↓dInT, ↓dRev1, ↓bRep, ↓q1_at, ↓q2_at, ↓q3_at, ↓popex, ↓atx0, ↓atx1, ↓atx2, ↓atx3, ↓reduceIte,
  wipeD, backD, isInt, cast_succ_ne, at0, at1, at2, at3, ex_some, cut1, eqvS, eqvI, shS, shI, flatD, popget, emp_app, down0, down1, down2, down3, List.dropLast_concat, List.all_cons, List.all_nil, Bool.and_true, decide_eq_true_eq, isTy, isNone, startD, startF, List.map_cons, List.map_nil, List.length_cons, List.length_nil, List.nil_append, List.cons_append, List.replicate, List.getElem?_cons_zero, List.getElem?_cons_succ, List.getElem?_nil, List.set_cons_zero, List.set_cons_succ, List.set_nil, Nat.zero_add, Nat.reduceAdd, Nat.reduceSub, Nat.reduceLT, Nat.reduceLeDiff, Int.reduceAdd, Int.reduceSub, Int.toNat_natCast, if_true, if_false, ite_true, ite_false, Bool.false_eq_true, Bool.not_true, Bool.not_false, Bool.true_eq_false, true_and, and_true, Nat.sub_self, Nat.sub_zero, Nat.reduceMul, List.replicate_zero, List.append_nil])
          obtain ⟨z, ez, mz⟩ := at_in ra0 ra1
          exact ⟨z, ez, fun es ee => by cases ee; exact h z fsa _ rda (by omega) (by omega) (ch_menu hm he mz)⟩
    | cons z0 ds0 =>
      have hne : (0 : Int) < (((z0 :: ds0).length : Nat) : Int) := by rw [List.length_cons]; omega
      have hL : (z0 :: ds0).length ≤ 12000 := by
        have a := wtL_len (z0 :: ds0)
        have b : 6 + wtL (z0 :: ds0) ≤ 90000 := hw
        omega
      generalize hg : z0 :: ds0 = ds at *
      (simp (config := {maxSteps := 3000000}) only [hne, ↓dSeq, ↓dIfS, ↓dRet, ↓dRetN, ↓dAsg, ↓dAsgO, ↓dSet_eq, ↓sc_n, ↓sc_d, ↓sc_o, ↓sc_y, ↓dDrop, ↓dAsgG, ↓dPar2, ↓dPar3, ↓dPopAt, ↓dInsert, ↓dRevL, ↓dRevT, ↓bRepS, ↓dgTup, ↓dgCons, ↓dgName, ↓dgNil, ↓dNext, ↓dBreak, ↓dCont, ↓dVar, ↓dC, ↓dOp, ↓dTest, ↓dAnd, ↓dOr, ↓dNot, ↓dAndV, ↓dOrV, ↓dNotV, ↓dIf, ↓dIfL, ↓dNil, ↓dCons, ↓dTup, ↓dLst, ↓dFrz, ↓dCall, ↓dCallP_h, ↓dCallF_h, ↓dCallN_h, ↓hid_1, ↓dSeqOf, ↓dRange1, ↓dRange2, ↓dEnum, ↓dZip, ↓dForD, ↓forD, ↓dLcD, ↓dYes, ↓dAppend, ↓dPop, ↓dExtend, ↓dSetItem, ↓dTruO, ↓bInt, ↓bAdd, ↓bAddB, ↓dNeg, ↓bEq, ↓bNe, ↓bIs, ↓bIsNot, ↓bLt, ↓bLe, ↓bGt, ↓bGe, ↓bOrd, ↓dChain, ↓bIn, ↓bIx, ↓dIxO, ↓dLenO, ↓dNo, ↓dYesO, ↓dSlice, ↓SlD, ↓dIsi, ↓dIsi2, ↓cLen, ↓cAll, ↓cStr, ↓cInt, ↓cTuple, ↓dListOf, ↓dCat, ↓dJoin, ↓dFmt, ↓dJs, ↓dJoined, ↓dGetT, ↓dInT, ↓dRev1, ↓bRep, ↓q1_at, ↓q2_at, ↓q3_at, ↓popex, ↓atx0, ↓atx1, ↓atx2, ↓atx3, ↓reduceIte,
  wipeD, backD, isInt, cast_succ_ne, at0, at1, at2, at3, ex_some, cut1, eqvS, eqvI, shS, shI, flatD, popget, emp_app, down0, down1, down2, down3, List.dropLast_concat, List.all_cons, List.all_nil, Bool.and_true, decide_eq_true_eq, isTy, isNone, startD, startF, List.map_cons, List.map_nil, List.length_cons, List.length_nil, List.nil_append, List.cons_append, List.replicate, List.getElem?_cons_zero, List.getElem?_cons_succ, List.getElem?_nil, List.set_cons_zero, List.set_cons_succ, List.set_nil, Nat.zero_add, Nat.reduceAdd, Nat.reduceSub, Nat.reduceLT, Nat.reduceLeDiff, Int.reduceAdd, Int.reduceSub, Int.toNat_natCast, if_true, if_false, ite_true, ite_false, Bool.false_eq_true, Bool.not_true, Bool.not_false, Bool.true_eq_false, true_and, and_true, Nat.sub_self, Nat.sub_zero, Nat.reduceMul, List.replicate_zero, List.append_nil])
      refine ⟨_, 4, rd, by omega, by show _ < (1099511627776 : Int); omega, rfl, by decide, by decide, fun u fsu u0 u1 rdu => ?_⟩
      (simp (config := {maxSteps := 3000000}) only [↓dSeq, ↓dIfS, ↓dRet, ↓dRetN, ↓dAsg, ↓dAsgO, ↓dSet_eq, ↓sc_n, ↓sc_d, ↓sc_o, ↓sc_y, ↓dDrop, ↓dAsgG, ↓dPar2, ↓dPar3, ↓dPopAt, ↓dInsert, ↓dRevL, ↓dRevT, ↓bRepS, ↓dgTup, ↓dgCons, ↓dgName, ↓dgNil, ↓dNext, ↓dBreak, ↓dCont, ↓dVar, ↓dC, ↓dOp, ↓dTest, ↓dAnd, ↓dOr, ↓dNot, ↓dAndV, ↓dOrV, ↓dNotV, ↓dIf, ↓dIfL, ↓dNil, ↓dCons, ↓dTup, ↓dLst, ↓dFrz, ↓dCall, ↓dCallP_h, ↓dCallF_h, ↓dCallN_h, ↓hid_1, ↓dSeqOf, ↓dRange1, ↓dRange2, ↓dEnum, ↓dZip, ↓dForD, ↓forD, ↓dLcD, ↓dYes, ↓dAppend, ↓dPop, ↓dExtend, ↓dSetItem, ↓dTruO, ↓bInt, ↓bAdd, ↓bAddB, ↓dNeg, ↓bEq, ↓bNe, ↓bIs, ↓bIsNot, ↓bLt, ↓bLe, ↓bGt, ↓bGe, ↓bOrd, ↓dChain, ↓bIn, ↓bIx, ↓dIxO, ↓dLenO, ↓dNo, ↓dYesO, ↓dSlice, ↓SlD, ↓dIsi, ↓dIsi2, ↓cLen, ↓cAll, ↓cStr, ↓cInt, ↓cTuple, ↓dListOf, ↓dCat, ↓dJoin, ↓dFmt, ↓dJs, ↓dJoined, ↓dGetT, ↓dInT, ↓dRev1, ↓bRep, ↓q1_at, ↓q2_at, ↓q3_at, ↓popex, ↓atx0, ↓atx1, ↓atx2, ↓atx3, ↓reduceIte,
  wipeD, backD, isInt, cast_succ_ne, at0, at1, at2, at3, ex_some, cut1, eqvS, eqvI, shS, shI, flatD, popget, emp_app, down0, down1, down2, down3, List.dropLast_concat, List.all_cons, List.all_nil, Bool.and_true, decide_eq_true_eq, isTy, isNone, startD, startF, List.map_cons, List.map_nil, List.length_cons, List.length_nil, List.nil_append, List.cons_append, List.replicate, List.getElem?_cons_zero, List.getElem?_cons_succ, List.getElem?_nil, List.set_cons_zero, List.set_cons_succ, List.set_nil, Nat.zero_add, Nat.reduceAdd, Nat.reduceSub, Nat.reduceLT, Nat.reduceLeDiff, Int.reduceAdd, Int.reduceSub, Int.toNat_natCast, if_true, if_false, ite_true, ite_false, Bool.false_eq_true, Bool.not_true, Bool.not_false, Bool.true_eq_false, true_and, and_true, Nat.sub_self, Nat.sub_zero, Nat.reduceMul, List.replicate_zero, List.append_nil])
      by_cases qu : 0 < u
      · rw [if_pos qu]
        refine ⟨_, ((ds.length : Nat) : Int), rdu, by omega, by show _ < (1099511627776 : Int); omega, rfl, by omega, by omega, fun a fsa a0 a1 rda => ?_⟩
        (simp (config := {maxSteps := 3000000}) only [↓dSeq, ↓dIfS, ↓dRet, ↓dRetN, ↓dAsg, ↓dAsgO, ↓dSet_eq, ↓sc_n, ↓sc_d, ↓sc_o, ↓sc_y, ↓dDrop, ↓dAsgG, ↓dPar2, ↓dPar3, ↓dPopAt, ↓dInsert, ↓dRevL, ↓dRevT, ↓bRepS, ↓dgTup, ↓dgCons, ↓dgName, ↓dgNil, ↓dNext, ↓dBreak, ↓dCont, ↓dVar, ↓dC, ↓dOp, ↓dTest, ↓dAnd, ↓dOr, ↓dNot, ↓dAndV, ↓dOrV, ↓dNotV, ↓dIf, ↓dIfL, ↓dNil, ↓dCons, ↓dTup, ↓dLst, ↓dFrz, ↓dCall, ↓dCallP_h, ↓dCallF_h, ↓dCallN_h, ↓hid_1, ↓dSeqOf, ↓dRange1, ↓dRange2, ↓dEnum, ↓dZip, ↓dForD, ↓forD, ↓dLcD, ↓dYes, ↓dAppend, ↓dPop, ↓dExtend, ↓dSetItem, ↓dTruO, ↓bInt, ↓bAdd, ↓bAddB, ↓dNeg, ↓bEq, ↓bNe, ↓bIs, ↓bIsNot, ↓bLt, ↓bLe, ↓bGt, ↓bGe, ↓bOrd, ↓dChain, ↓bIn, ↓bIx, ↓dIxO, ↓dLenO, ↓dNo, ↓dYesO, ↓dSlice, ↓SlD, ↓dIsi, ↓dIsi2, ↓cLen, ↓cAll, ↓cStr, ↓cInt, ↓cTuple, ↓dListOf, ↓dCat, ↓dJoin, ↓dFmt, ↓dJs, ↓dJoined, ↓dGetT, ↓dInT, ↓dRev1, ↓bRep, ↓q1_at, ↓q2_at, ↓q3_at, ↓popex, ↓atx0, ↓atx1, ↓atx2, ↓atx3, ↓reduceIte,
  wipeD, backD, isInt, cast_succ_ne, at0, at1, at2, at3, ex_some, cut1, eqvS, eqvI, shS, shI, flatD, popget, emp_app, down0, down1, down2, down3, List.dropLast_concat, List.all_cons, List.all_nil, Bool.and_true, decide_eq_true_eq, isTy, isNone, startD, startF, List.map_cons, List.map_nil, List.length_cons, List.length_nil, List.nil_append, List.cons_append, List.replicate, List.getElem?_cons_zero, List.getElem?_cons_succ, List.getElem?_nil, List.set_cons_zero, List.set_cons_succ, List.set_nil, Nat.zero_add, Nat.reduceAdd, Nat.reduceSub, Nat.reduceLT, Nat.reduceLeDiff, Int.reduceAdd, Int.reduceSub, Int.toNat_natCast, if_true, if_false, ite_true, ite_false, Bool.false_eq_true, Bool.not_true, Bool.not_false, Bool.true_eq_false, true_and, and_true, Nat.sub_self, Nat.sub_zero, Nat.reduceMul, List.replicate_zero, List.append_nil])
        refine ⟨_, 7, rda, by omega, by show _ < (1099511627776 : Int); omega, rfl, by decide, by decide, fun v fsv v0 v1 rdv => ?_⟩
        obtain ⟨x, ex, mx, gx⟩ := at_in2 a0 a1
        have ok' := (ok_itm (d := .tuple ds) rfl).mp ok
        have ox := okVL_iff.mp ok' x mx
        have dx : x.depth + 1 ≤ PyData.depth (.tuple ds) := by have := depth_mem mx; rw [dp_itm (d := .tuple ds) rfl]; omega
        have wx := wtL_mem mx
        have wd : T1.wt (.tuple ds) = 6 + wtL ds := rfl
        by_cases v4 : v < 4
        · (simp (config := {maxSteps := 3000000}) only [v4, ↓dSeq, ↓dIfS, ↓dRet, ↓dRetN, ↓dAsg, ↓dAsgO, ↓dSet_eq, ↓sc_n, ↓sc_d, ↓sc_o, ↓sc_y, ↓dDrop, ↓dAsgG, ↓dPar2, ↓dPar3, ↓dPopAt, ↓dInsert, ↓dRevL, ↓dRevT, ↓bRepS, ↓dgTup, ↓dgCons, ↓dgName, ↓dgNil, ↓dNext, ↓dBreak, ↓dCont, ↓dVar, ↓dC, ↓dOp, ↓dTest, ↓dAnd, ↓dOr, ↓dNot, ↓dAndV, ↓dOrV, ↓dNotV, ↓dIf, ↓dIfL, ↓dNil, ↓dCons, ↓dTup, ↓dLst, ↓dFrz, ↓dCall, ↓dCallP_h, ↓dCallF_h, ↓dCallN_h, ↓hid_1, ↓dSeqOf, ↓dRange1, ↓dRange2, ↓dEnum, ↓dZip, ↓dForD, ↓forD, ↓dLcD, ↓dYes, ↓dAppend, ↓dPop, ↓dExtend, ↓dSetItem, ↓dTruO, ↓bInt, ↓bAdd, ↓bAddB, ↓dNeg, ↓bEq, ↓bNe, ↓bIs, ↓bIsNot, ↓bLt, ↓bLe, ↓bGt, ↓bGe, ↓bOrd, ↓dChain, ↓bIn, ↓bIx, ↓dIxO, ↓dLenO, ↓dNo, ↓dYesO, ↓dSlice, ↓SlD, ↓dIsi, ↓dIsi2, ↓cLen, ↓cAll, ↓cStr, ↓cInt, ↓cTuple, ↓dListOf, ↓dCat, ↓dJoin, ↓dFmt, ↓dJs, ↓dJoined, ↓dGetT, ↓dInT, ↓dRev1, ↓bRep, ↓q1_at, ↓q2_at, ↓q3_at, ↓popex, ↓atx0, ↓atx1, ↓atx2, ↓atx3, ↓reduceIte,
  wipeD, backD, isInt, cast_succ_ne, at0, at1, at2, at3, ex_some, cut1, eqvS, eqvI, shS, shI, flatD, popget, emp_app, down0, down1, down2, down3, List.dropLast_concat, List.all_cons, List.all_nil, Bool.and_true, decide_eq_true_eq, isTy, isNone, startD, startF, List.map_cons, List.map_nil, List.length_cons, List.length_nil, List.nil_append, List.cons_append, List.replicate, List.getElem?_cons_zero, List.getElem?_cons_succ, List.getElem?_nil, List.set_cons_zero, List.set_cons_succ, List.set_nil, Nat.zero_add, Nat.reduceAdd, Nat.reduceSub, Nat.reduceLT, Nat.reduceLeDiff, Int.reduceAdd, Int.reduceSub, Int.toNat_natCast, if_true, if_false, ite_true, ite_false, Bool.false_eq_true, Bool.not_true, Bool.not_false, Bool.true_eq_false, true_and, and_true, Nat.sub_self, Nat.sub_zero, Nat.reduceMul, List.replicate_zero, List.append_nil])
          refine ⟨x, ex, x, menu, e, _, rfl, ox, he, by omega, by omega, hm, rdv, by omega, by show _ < (1099511627776 : Int); omega, fun d' fs' m' rd' m0' m1' c => ?_⟩
          (simp (config := {maxSteps := 3000000}) only [↓dSeq, ↓dIfS, ↓dRet, ↓dRetN, ↓dAsg, ↓dAsgO, ↓dSet_eq, ↓sc_n, ↓sc_d, ↓sc_o, ↓sc_y, ↓dDrop, ↓dAsgG, ↓dPar2, ↓dPar3, ↓dPopAt, ↓dInsert, ↓dRevL, ↓dRevT, ↓bRepS, ↓dgTup, ↓dgCons, ↓dgName, ↓dgNil, ↓dNext, ↓dBreak, ↓dCont, ↓dVar, ↓dC, ↓dOp, ↓dTest, ↓dAnd, ↓dOr, ↓dNot, ↓dAndV, ↓dOrV, ↓dNotV, ↓dIf, ↓dIfL, ↓dNil, ↓dCons, ↓dTup, ↓dLst, ↓dFrz, ↓dCall, ↓dCallP_h, ↓dCallF_h, ↓dCallN_h, ↓hid_1, ↓dSeqOf, ↓dRange1, ↓dRange2, ↓dEnum, ↓dZip, ↓dForD, ↓forD, ↓dLcD, ↓dYes, ↓dAppend, ↓dPop, ↓dExtend, ↓dSetItem, ↓dTruO, ↓bInt, ↓bAdd, ↓bAddB, ↓dNeg, ↓bEq, ↓bNe, ↓bIs, ↓bIsNot, ↓bLt, ↓bLe, ↓bGt, ↓bGe, ↓bOrd, ↓dChain, ↓bIn, ↓bIx, ↓dIxO, ↓dLenO, ↓dNo, ↓dYesO, ↓dSlice, ↓SlD, ↓dIsi, ↓dIsi2, ↓cLen, ↓cAll, ↓cStr, ↓cInt, ↓cTuple, ↓dListOf, ↓dCat, ↓dJoin, ↓dFmt, ↓dJs, ↓dJoined, ↓dGetT, ↓dInT, ↓dRev1, ↓bRep, ↓q1_at, ↓q2_at, ↓q3_at, ↓popex, ↓atx0, ↓atx1, ↓atx2, ↓atx3, ↓reduceIte,
  wipeD, backD, isInt, cast_succ_ne, at0, at1, at2, at3, ex_some, cut1, eqvS, eqvI, shS, shI, flatD, popget, emp_app, down0, down1, down2, down3, List.dropLast_concat, List.all_cons, List.all_nil, Bool.and_true, decide_eq_true_eq, isTy, isNone, startD, startF, List.map_cons, List.map_nil, List.length_cons, List.length_nil, List.nil_append, List.cons_append, List.replicate, List.getElem?_cons_zero, List.getElem?_cons_succ, List.getElem?_nil, List.set_cons_zero, List.set_cons_succ, List.set_nil, Nat.zero_add, Nat.reduceAdd, Nat.reduceSub, Nat.reduceLT, Nat.reduceLeDiff, Int.reduceAdd, Int.reduceSub, Int.toNat_natCast, if_true, if_false, ite_true, ite_false, Bool.false_eq_true, Bool.not_true, Bool.not_false, Bool.true_eq_false, true_and, and_true, Nat.sub_self, Nat.sub_zero, Nat.reduceMul, List.replicate_zero, List.append_nil])
          exact ⟨a0, a1, fun es ee => by cases ee; exact h _ fs' m' rd' (by omega) (by omega) (ch_set rfl ok gx c rfl)⟩
        · by_cases v5 : v = 4
          · subst v5
            (simp (config := {maxSteps := 3000000}) only [Int.reduceLT, Int.reduceEq, ↓dSeq, ↓dIfS, ↓dRet, ↓dRetN, ↓dAsg, ↓dAsgO, ↓dSet_eq, ↓sc_n, ↓sc_d, ↓sc_o, ↓sc_y, ↓dDrop, ↓dAsgG, ↓dPar2, ↓dPar3, ↓dPopAt, ↓dInsert, ↓dRevL, ↓dRevT, ↓bRepS, ↓dgTup, ↓dgCons, ↓dgName, ↓dgNil, ↓dNext, ↓dBreak, ↓dCont, ↓dVar, ↓dC, ↓dOp, ↓dTest, ↓dAnd, ↓dOr, ↓dNot, ↓dAndV, ↓dOrV, ↓dNotV, ↓dIf, ↓dIfL, ↓dNil, ↓dCons, ↓dTup, ↓dLst, ↓dFrz, ↓dCall, ↓dCallP_h, ↓dCallF_h, ↓dCallN_h, ↓hid_1, ↓dSeqOf, ↓dRange1, ↓dRange2, ↓dEnum, ↓dZip, ↓dForD, ↓forD, ↓dLcD, ↓dYes, ↓dAppend, ↓dPop, ↓dExtend, ↓dSetItem, ↓dTruO, ↓bInt, ↓bAdd, ↓bAddB, ↓dNeg, ↓bEq, ↓bNe, ↓bIs, ↓bIsNot, ↓bLt, ↓bLe, ↓bGt, ↓bGe, ↓bOrd, ↓dChain, ↓bIn, ↓bIx, ↓dIxO, ↓dLenO, ↓dNo, ↓dYesO, ↓dSlice, ↓SlD, ↓dIsi, ↓dIsi2, ↓cLen, ↓cAll, ↓cStr, ↓cInt, ↓cTuple, ↓dListOf, ↓dCat, ↓dJoin, ↓dFmt, ↓dJs, ↓dJoined, ↓dGetT, ↓dInT, ↓dRev1, ↓bRep, ↓q1_at, ↓q2_at, ↓q3_at, ↓popex, ↓atx0, ↓atx1, ↓atx2, ↓atx3, ↓reduceIte,
  wipeD, backD, isInt, cast_succ_ne, at0, at1, at2, at3, ex_some, cut1, eqvS, eqvI, shS, shI, flatD, popget, emp_app, down0, down1, down2, down3, List.dropLast_concat, List.all_cons, List.all_nil, Bool.and_true, decide_eq_true_eq, isTy, isNone, startD, startF, List.map_cons, List.map_nil, List.length_cons, List.length_nil, List.nil_append, List.cons_append, List.replicate, List.getElem?_cons_zero, List.getElem?_cons_succ, List.getElem?_nil, List.set_cons_zero, List.set_cons_succ, List.set_nil, Nat.zero_add, Nat.reduceAdd, Nat.reduceSub, Nat.reduceLT, Nat.reduceLeDiff, Int.reduceAdd, Int.reduceSub, Int.toNat_natCast, if_true, if_false, ite_true, ite_false, Bool.false_eq_true, Bool.not_true, Bool.not_false, Bool.true_eq_false, true_and, and_true, Nat.sub_self, Nat.sub_zero, Nat.reduceMul, List.replicate_zero, List.append_nil])
            exact ⟨a0, a1, by omega, x, gx, fun es ee => by cases ee; exact h _ fsv _ rdv (by omega) (by omega) (ch_pop rfl ok rfl)⟩
          · by_cases v6 : v = 5
            · subst v6
              (simp (config := {maxSteps := 3000000}) only [Int.reduceLT, Int.reduceEq, ↓dSeq, ↓dIfS, ↓dRet, ↓dRetN, ↓dAsg, ↓dAsgO, ↓dSet_eq, ↓sc_n, ↓sc_d, ↓sc_o, ↓sc_y, ↓dDrop, ↓dAsgG, ↓dPar2, ↓dPar3, ↓dPopAt, ↓dInsert, ↓dRevL, ↓dRevT, ↓bRepS, ↓dgTup, ↓dgCons, ↓dgName, ↓dgNil, ↓dNext, ↓dBreak, ↓dCont, ↓dVar, ↓dC, ↓dOp, ↓dTest, ↓dAnd, ↓dOr, ↓dNot, ↓dAndV, ↓dOrV, ↓dNotV, ↓dIf, ↓dIfL, ↓dNil, ↓dCons, ↓dTup, ↓dLst, ↓dFrz, ↓dCall, ↓dCallP_h, ↓dCallF_h, ↓dCallN_h, ↓hid_1, ↓dSeqOf, ↓dRange1, ↓dRange2, ↓dEnum, ↓dZip, ↓dForD, ↓forD, ↓dLcD, ↓dYes, ↓dAppend, ↓dPop, ↓dExtend, ↓dSetItem, ↓dTruO, ↓bInt, ↓bAdd, ↓bAddB, ↓dNeg, ↓bEq, ↓bNe, ↓bIs, ↓bIsNot, ↓bLt, ↓bLe, ↓bGt, ↓bGe, ↓bOrd, ↓dChain, ↓bIn, ↓bIx, ↓dIxO, ↓dLenO, ↓dNo, ↓dYesO, ↓dSlice, ↓SlD, ↓dIsi, ↓dIsi2, ↓cLen, ↓cAll, ↓cStr, ↓cInt, ↓cTuple, ↓dListOf, ↓dCat, ↓dJoin, ↓dFmt, ↓dJs, ↓dJoined, ↓dGetT, ↓dInT, ↓dRev1, ↓bRep, ↓q1_at, ↓q2_at, ↓q3_at, ↓popex, ↓atx0, ↓atx1, ↓atx2, ↓atx3, ↓reduceIte,
  wipeD, backD, isInt, cast_succ_ne, at0, at1, at2, at3, ex_some, cut1, eqvS, eqvI, shS, shI, flatD, popget, emp_app, down0, down1, down2, down3, List.dropLast_concat, List.all_cons, List.all_nil, Bool.and_true, decide_eq_true_eq, isTy, isNone, startD, startF, List.map_cons, List.map_nil, List.length_cons, List.length_nil, List.nil_append, List.cons_append, List.replicate, List.getElem?_cons_zero, List.getElem?_cons_succ, List.getElem?_nil, List.set_cons_zero, List.set_cons_succ, List.set_nil, Nat.zero_add, Nat.reduceAdd, Nat.reduceSub, Nat.reduceLT, Nat.reduceLeDiff, Int.reduceAdd, Int.reduceSub, Int.toNat_natCast, if_true, if_false, ite_true, ite_false, Bool.false_eq_true, Bool.not_true, Bool.not_false, Bool.true_eq_false, true_and, and_true, Nat.sub_self, Nat.sub_zero, Nat.reduceMul, List.replicate_zero, List.append_nil])
              refine ⟨_, ((ds.length : Nat) : Int), rdv, by omega, by show _ < (1099511627776 : Int); omega, rfl, by omega, by omega, fun b fsb b0 b1 rdb => ?_⟩
              obtain ⟨y, ey, my, gy⟩ := at_in2 b0 b1
              have wy := wtL_mem my
              have dy : y.depth + 1 ≤ PyData.depth (.tuple ds) := by have := depth_mem my; rw [dp_itm (d := .tuple ds) rfl]; omega
              (simp (config := {maxSteps := 3000000}) only [↓dSeq, ↓dIfS, ↓dRet, ↓dRetN, ↓dAsg, ↓dAsgO, ↓dSet_eq, ↓sc_n, ↓sc_d, ↓sc_o, ↓sc_y, ↓dDrop, ↓dAsgG, ↓dPar2, ↓dPar3, ↓dPopAt, ↓dInsert, ↓dRevL, ↓dRevT, ↓bRepS, ↓dgTup, ↓dgCons, ↓dgName, ↓dgNil, ↓dNext, ↓dBreak, ↓dCont, ↓dVar, ↓dC, ↓dOp, ↓dTest, ↓dAnd, ↓dOr, ↓dNot, ↓dAndV, ↓dOrV, ↓dNotV, ↓dIf, ↓dIfL, ↓dNil, ↓dCons, ↓dTup, ↓dLst, ↓dFrz, ↓dCall, ↓dCallP_h, ↓dCallF_h, ↓dCallN_h, ↓hid_1, ↓dSeqOf, ↓dRange1, ↓dRange2, ↓dEnum, ↓dZip, ↓dForD, ↓forD, ↓dLcD, ↓dYes, ↓dAppend, ↓dPop, ↓dExtend, ↓dSetItem, ↓dTruO, ↓bInt, ↓bAdd, ↓bAddB, ↓dNeg, ↓bEq, ↓bNe, ↓bIs, ↓bIsNot, ↓bLt, ↓bLe, ↓bGt, ↓bGe, ↓bOrd, ↓dChain, ↓bIn, ↓bIx, ↓dIxO, ↓dLenO, ↓dNo, ↓dYesO, ↓dSlice, ↓SlD, ↓dIsi, ↓dIsi2, ↓cLen, ↓cAll, ↓cStr, ↓cInt, ↓cTuple, ↓dListOf, ↓dCat, ↓dJoin, ↓dFmt, ↓dJs, ↓dJoined, ↓dGetT, ↓dInT, ↓dRev1, ↓bRep, ↓q1_at, ↓q2_at, ↓q3_at, ↓popex, ↓atx0, ↓atx1, ↓atx2, ↓atx3, ↓reduceIte,
  wipeD, backD, isInt, cast_succ_ne, at0, at1, at2, at3, ex_some, cut1, eqvS, eqvI, shS, shI, flatD, popget, emp_app, down0, down1, down2, down3, List.dropLast_concat, List.all_cons, List.all_nil, Bool.and_true, decide_eq_true_eq, isTy, isNone, startD, startF, List.map_cons, List.map_nil, List.length_cons, List.length_nil, List.nil_append, List.cons_append, List.replicate, List.getElem?_cons_zero, List.getElem?_cons_succ, List.getElem?_nil, List.set_cons_zero, List.set_cons_succ, List.set_nil, Nat.zero_add, Nat.reduceAdd, Nat.reduceSub, Nat.reduceLT, Nat.reduceLeDiff, Int.reduceAdd, Int.reduceSub, Int.toNat_natCast, if_true, if_false, ite_true, ite_false, Bool.false_eq_true, Bool.not_true, Bool.not_false, Bool.true_eq_false, true_and, and_true, Nat.sub_self, Nat.sub_zero, Nat.reduceMul, List.replicate_zero, List.append_nil])
              exact ⟨y, ey, a0, by omega, by omega, fun es ee => by cases ee; exact h _ fsb _ rdb (by omega) (by omega) (ch_ins rfl ok (okV_le (Nat.le_succ _) (okVL_iff.mp ok' y my)) (by omega) (by omega) rfl)⟩
            · (simp (config := {maxSteps := 3000000}) only [v4, v5, v6, ↓dSeq, ↓dIfS, ↓dRet, ↓dRetN, ↓dAsg, ↓dAsgO, ↓dSet_eq, ↓sc_n, ↓sc_d, ↓sc_o, ↓sc_y, ↓dDrop, ↓dAsgG, ↓dPar2, ↓dPar3, ↓dPopAt, ↓dInsert, ↓dRevL, ↓dRevT, ↓bRepS, ↓dgTup, ↓dgCons, ↓dgName, ↓dgNil, ↓dNext, ↓dBreak, ↓dCont, ↓dVar, ↓dC, ↓dOp, ↓dTest, ↓dAnd, ↓dOr, ↓dNot, ↓dAndV, ↓dOrV, ↓dNotV, ↓dIf, ↓dIfL, ↓dNil, ↓dCons, ↓dTup, ↓dLst, ↓dFrz, ↓dCall, ↓dCallP_h, ↓dCallF_h, ↓dCallN_h, ↓hid_1, ↓dSeqOf, ↓dRange1, ↓dRange2, ↓dEnum, ↓dZip, ↓dForD, ↓forD, ↓dLcD, ↓dYes, ↓dAppend, ↓dPop, ↓dExtend, ↓dSetItem, ↓dTruO, ↓bInt, ↓bAdd, ↓bAddB, ↓dNeg, ↓bEq, ↓bNe, ↓bIs, ↓bIsNot, ↓bLt, ↓bLe, ↓bGt, ↓bGe, ↓bOrd, ↓dChain, ↓bIn, ↓bIx, ↓dIxO, ↓dLenO, ↓dNo, ↓dYesO, ↓dSlice, ↓SlD, ↓dIsi, ↓dIsi2, ↓cLen, ↓cAll, ↓cStr, ↓cInt, ↓cTuple, ↓dListOf, ↓dCat, ↓dJoin, ↓dFmt, ↓dJs, ↓dJoined, ↓dGetT, ↓dInT, ↓dRev1, ↓bRep, ↓q1_at, ↓q2_at, ↓q3_at, ↓popex, ↓atx0, ↓atx1, ↓atx2, ↓atx3, ↓reduceIte,
  wipeD, backD, isInt, cast_succ_ne, at0, at1, at2, at3, ex_some, cut1, eqvS, eqvI, shS, shI, flatD, popget, emp_app, down0, down1, down2, down3, List.dropLast_concat, List.all_cons, List.all_nil, Bool.and_true, decide_eq_true_eq, isTy, isNone, startD, startF, List.map_cons, List.map_nil, List.length_cons, List.length_nil, List.nil_append, List.cons_append, List.replicate, List.getElem?_cons_zero, List.getElem?_cons_succ, List.getElem?_nil, List.set_cons_zero, List.set_cons_succ, List.set_nil, Nat.zero_add, Nat.reduceAdd, Nat.reduceSub, Nat.reduceLT, Nat.reduceLeDiff, Int.reduceAdd, Int.reduceSub, Int.toNat_natCast, if_true, if_false, ite_true, ite_false, Bool.false_eq_true, Bool.not_true, Bool.not_false, Bool.true_eq_false, true_and, and_true, Nat.sub_self, Nat.sub_zero, Nat.reduceMul, List.replicate_zero, List.append_nil])
              refine ⟨_, ((menu.length : Nat) : Int), rdv, by omega, by show _ < (1099511627776 : Int); omega, rfl, by omega, by omega, fun b fsb b0 b1 rdb => ?_⟩
              obtain ⟨y, ey, my, gy⟩ := at_in2 b0 b1
              obtain ⟨oy, dy, wy⟩ := hm.ok y my
              (simp (config := {maxSteps := 3000000}) only [↓dSeq, ↓dIfS, ↓dRet, ↓dRetN, ↓dAsg, ↓dAsgO, ↓dSet_eq, ↓sc_n, ↓sc_d, ↓sc_o, ↓sc_y, ↓dDrop, ↓dAsgG, ↓dPar2, ↓dPar3, ↓dPopAt, ↓dInsert, ↓dRevL, ↓dRevT, ↓bRepS, ↓dgTup, ↓dgCons, ↓dgName, ↓dgNil, ↓dNext, ↓dBreak, ↓dCont, ↓dVar, ↓dC, ↓dOp, ↓dTest, ↓dAnd, ↓dOr, ↓dNot, ↓dAndV, ↓dOrV, ↓dNotV, ↓dIf, ↓dIfL, ↓dNil, ↓dCons, ↓dTup, ↓dLst, ↓dFrz, ↓dCall, ↓dCallP_h, ↓dCallF_h, ↓dCallN_h, ↓hid_1, ↓dSeqOf, ↓dRange1, ↓dRange2, ↓dEnum, ↓dZip, ↓dForD, ↓forD, ↓dLcD, ↓dYes, ↓dAppend, ↓dPop, ↓dExtend, ↓dSetItem, ↓dTruO, ↓bInt, ↓bAdd, ↓bAddB, ↓dNeg, ↓bEq, ↓bNe, ↓bIs, ↓bIsNot, ↓bLt, ↓bLe, ↓bGt, ↓bGe, ↓bOrd, ↓dChain, ↓bIn, ↓bIx, ↓dIxO, ↓dLenO, ↓dNo, ↓dYesO, ↓dSlice, ↓SlD, ↓dIsi, ↓dIsi2, ↓cLen, ↓cAll, ↓cStr, ↓cInt, ↓cTuple, ↓dListOf, ↓dCat, ↓dJoin, ↓dFmt, ↓dJs, ↓dJoined, ↓dGetT, ↓dInT, ↓dRev1, ↓bRep, ↓q1_at, ↓q2_at, ↓q3_at, ↓popex, ↓atx0, ↓atx1, ↓atx2, ↓atx3, ↓reduceIte,
  wipeD, backD, isInt, cast_succ_ne, at0, at1, at2, at3, ex_some, cut1, eqvS, eqvI, shS, shI, flatD, popget, emp_app, down0, down1, down2, down3, List.dropLast_concat, List.all_cons, List.all_nil, Bool.and_true, decide_eq_true_eq, isTy, isNone, startD, startF, List.map_cons, List.map_nil, List.length_cons, List.length_nil, List.nil_append, List.cons_append, List.replicate, List.getElem?_cons_zero, List.getElem?_cons_succ, List.getElem?_nil, List.set_cons_zero, List.set_cons_succ, List.set_nil, Nat.zero_add, Nat.reduceAdd, Nat.reduceSub, Nat.reduceLT, Nat.reduceLeDiff, Int.reduceAdd, Int.reduceSub, Int.toNat_natCast, if_true, if_false, ite_true, ite_false, Bool.false_eq_true, Bool.not_true, Bool.not_false, Bool.true_eq_false, true_and, and_true, Nat.sub_self, Nat.sub_zero, Nat.reduceMul, List.replicate_zero, List.append_nil])
              exact ⟨y, ey, a0, by omega, by omega, fun es ee => by cases ee; exact h _ fsb _ rdb (by omega) (by omega) (ch_ins rfl ok (okV_le (by omega) oy) (by omega) (by omega) rfl)⟩
      · rw [if_neg qu]
        refine ⟨_, 4, rdu, by omega, by show _ < (1099511627776 : Int); omega, rfl, by decide, by decide, fun r fsr r0 r1 rdr => ?_⟩
        by_cases q0 : r = 0
        · subst q0
          (simp (config := {maxSteps := 3000000}) only [↓dSeq, ↓dIfS, ↓dRet, ↓dRetN, ↓dAsg, ↓dAsgO, ↓dSet_eq, ↓sc_n, ↓sc_d, ↓sc_o, ↓sc_y, ↓dDrop, ↓dAsgG, ↓dPar2, ↓dPar3, ↓dPopAt, ↓dInsert, ↓dRevL, ↓dRevT, ↓bRepS, ↓dgTup, ↓dgCons, ↓dgName, ↓dgNil, ↓dNext, ↓dBreak, ↓dCont, ↓dVar, ↓dC, ↓dOp, ↓dTest, ↓dAnd, ↓dOr, ↓dNot, ↓dAndV, ↓dOrV, ↓dNotV, ↓dIf, ↓dIfL, ↓dNil, ↓dCons, ↓dTup, ↓dLst, ↓dFrz, ↓dCall, ↓dCallP_h, ↓dCallF_h, ↓dCallN_h, ↓hid_1, ↓dSeqOf, ↓dRange1, ↓dRange2, ↓dEnum, ↓dZip, ↓dForD, ↓forD, ↓dLcD, ↓dYes, ↓dAppend, ↓dPop, ↓dExtend, ↓dSetItem, ↓dTruO, ↓bInt, ↓bAdd, ↓bAddB, ↓dNeg, ↓bEq, ↓bNe, ↓bIs, ↓bIsNot, ↓bLt, ↓bLe, ↓bGt, ↓bGe, ↓bOrd, ↓dChain, ↓bIn, ↓bIx, ↓dIxO, ↓dLenO, ↓dNo, ↓dYesO, ↓dSlice, ↓SlD, ↓dIsi, ↓dIsi2, ↓cLen, ↓cAll, ↓cStr, ↓cInt, ↓cTuple, ↓dListOf, ↓dCat, ↓dJoin, ↓dFmt, ↓dJs, ↓dJoined, ↓dGetT, ↓dInT, ↓dRev1, ↓bRep, ↓q1_at, ↓q2_at, ↓q3_at, ↓popex, ↓atx0, ↓atx1, ↓atx2, ↓atx3, ↓reduceIte,
  wipeD, backD, isInt, cast_succ_ne, at0, at1, at2, at3, ex_some, cut1, eqvS, eqvI, shS, shI, flatD, popget, emp_app, down0, down1, down2, down3, List.dropLast_concat, List.all_cons, List.all_nil, Bool.and_true, decide_eq_true_eq, isTy, isNone, startD, startF, List.map_cons, List.map_nil, List.length_cons, List.length_nil, List.nil_append, List.cons_append, List.replicate, List.getElem?_cons_zero, List.getElem?_cons_succ, List.getElem?_nil, List.set_cons_zero, List.set_cons_succ, List.set_nil, Nat.zero_add, Nat.reduceAdd, Nat.reduceSub, Nat.reduceLT, Nat.reduceLeDiff, Int.reduceAdd, Int.reduceSub, Int.toNat_natCast, if_true, if_false, ite_true, ite_false, Bool.false_eq_true, Bool.not_true, Bool.not_false, Bool.true_eq_false, true_and, and_true, Nat.sub_self, Nat.sub_zero, Nat.reduceMul, List.replicate_zero, List.append_nil])
          exact fun es ee => by cases ee; exact h _ fsr _ rdr (by omega) (by omega) (ch_turn rfl ok rfl)
        · by_cases q1 : r = 1
          · subst q1
            (simp (config := {maxSteps := 3000000}) only [↓dSeq, ↓dIfS, ↓dRet, ↓dRetN, ↓dAsg, ↓dAsgO, ↓dSet_eq, ↓sc_n, ↓sc_d, ↓sc_o, ↓sc_y, ↓dDrop, ↓dAsgG, ↓dPar2, ↓dPar3, ↓dPopAt, ↓dInsert, ↓dRevL, ↓dRevT, ↓bRepS, ↓dgTup, ↓dgCons, ↓dgName, ↓dgNil, ↓dNext, ↓dBreak, ↓dCont, ↓dVar, ↓dC, ↓dOp, ↓dTest, ↓dAnd, ↓dOr, ↓dNot, ↓dAndV, ↓dOrV, ↓dNotV, ↓dIf, ↓dIfL, ↓dNil, ↓dCons, ↓dTup, ↓dLst, ↓dFrz, ↓dCall, ↓dCallP_h, ↓dCallF_h, ↓dCallN_h, ↓hid_1, ↓dSeqOf, ↓dRange1, ↓dRange2, ↓dEnum, ↓dZip, ↓dForD, ↓forD, ↓dLcD, ↓dYes, ↓dAppend, ↓dPop, ↓dExtend, ↓dSetItem, ↓dTruO, ↓bInt, ↓bAdd, ↓bAddB, ↓dNeg, ↓bEq, ↓bNe, ↓bIs, ↓bIsNot, ↓bLt, ↓bLe, ↓bGt, ↓bGe, ↓bOrd, ↓dChain, ↓bIn, ↓bIx, ↓dIxO, ↓dLenO, ↓dNo, ↓dYesO, ↓dSlice, ↓SlD, ↓dIsi, ↓dIsi2, ↓cLen, ↓cAll, ↓cStr, ↓cInt, ↓cTuple, ↓dListOf, ↓dCat, ↓dJoin, ↓dFmt, ↓dJs, ↓dJoined, ↓dGetT, ↓dInT, ↓dRev1, ↓bRep, ↓q1_at, ↓q2_at, ↓q3_at, ↓popex, ↓atx0, ↓atx1, ↓atx2, ↓atx3, ↓reduceIte,
  wipeD, backD, isInt, cast_succ_ne, at0, at1, at2, at3, ex_some, cut1, eqvS, eqvI, shS, shI, flatD, popget, emp_app, down0, down1, down2, down3, List.dropLast_concat, List.all_cons, List.all_nil, Bool.and_true, decide_eq_true_eq, isTy, isNone, startD, startF, List.map_cons, List.map_nil, List.length_cons, List.length_nil, List.nil_append, List.cons_append, List.replicate, List.getElem?_cons_zero, List.getElem?_cons_succ, List.getElem?_nil, List.set_cons_zero, List.set_cons_succ, List.set_nil, Nat.zero_add, Nat.reduceAdd, Nat.reduceSub, Nat.reduceLT, Nat.reduceLeDiff, Int.reduceAdd, Int.reduceSub, Int.toNat_natCast, if_true, if_false, ite_true, ite_false, Bool.false_eq_true, Bool.not_true, Bool.not_false, Bool.true_eq_false, true_and, and_true, Nat.sub_self, Nat.sub_zero, Nat.reduceMul, List.replicate_zero, List.append_nil])
            refine ⟨_, ((menu.length : Nat) : Int), rdr, by omega, by show _ < (1099511627776 : Int); omega, rfl, by omega, by omega, fun ra fsa ra0 ra1 rda => ?_⟩
            (simp (config := {maxSteps := 3000000}) only [↓dSeq, ↓dIfS, ↓dRet, ↓dRetN, ↓dAsg, ↓dAsgO, ↓dSet_eq, ↓sc_n, ↓sc_d, ↓sc_o, ↓sc_y, ↓dDrop, ↓dAsgG, ↓dPar2, ↓dPar3, ↓dPopAt, ↓dInsert, ↓dRevL, ↓dRevT, ↓bRepS, ↓dgTup, ↓dgCons, ↓dgName, ↓dgNil, ↓dNext, ↓dBreak, ↓dCont, ↓dVar, ↓dC, ↓dOp, ↓dTest, ↓dAnd, ↓dOr, ↓dNot, ↓dAndV, ↓dOrV, ↓dNotV, ↓dIf, ↓dIfL, ↓dNil, ↓dCons, ↓dTup, ↓dLst, ↓dFrz, ↓dCall, ↓dCallP_h, ↓dCallF_h, ↓dCallN_h, ↓hid_1, ↓dSeqOf, ↓dRange1, ↓dRange2, ↓dEnum, ↓dZip, ↓dForD, ↓forD, ↓dLcD, ↓dYes, ↓dAppend, ↓dPop, ↓dExtend, ↓dSetItem, ↓dTruO, ↓bInt, ↓bAdd, ↓bAddB, ↓dNeg, ↓bEq, ↓bNe, ↓bIs, ↓bIsNot, ↓bLt, ↓bLe, ↓bGt, ↓bGe, ↓bOrd, ↓dChain, ↓bIn, ↓bIx, ↓dIxO, ↓dLenO, ↓dNo, ↓dYesO, ↓dSlice, ↓SlD, ↓dIsi, ↓dIsi2, ↓cLen, ↓cAll, ↓cStr, ↓cInt, ↓cTuple, ↓dListOf, ↓dCat, ↓dJoin, ↓dFmt, ↓dJs, ↓dJoined, ↓dGetT, ↓dInT, ↓dRev1, ↓bRep, ↓q1_at, ↓q2_at, ↓q3_at, ↓popex, ↓atx0, ↓atx1, ↓atx2, ↓atx3, ↓reduceIte,
  wipeD, backD, isInt, cast_succ_ne, at0, at1, at2, at3, ex_some, cut1, eqvS, eqvI, shS, shI, flatD, popget, emp_app, down0, down1, down2, down3, List.dropLast_concat, List.all_cons, List.all_nil, Bool.and_true, decide_eq_true_eq, isTy, isNone, startD, startF, List.map_cons, List.map_nil, List.length_cons, List.length_nil, List.nil_append, List.cons_append, List.replicate, List.getElem?_cons_zero, List.getElem?_cons_succ, List.getElem?_nil, List.set_cons_zero, List.set_cons_succ, List.set_nil, Nat.zero_add, Nat.reduceAdd, Nat.reduceSub, Nat.reduceLT, Nat.reduceLeDiff, Int.reduceAdd, Int.reduceSub, Int.toNat_natCast, if_true, if_false, ite_true, ite_false, Bool.false_eq_true, Bool.not_true, Bool.not_false, Bool.true_eq_false, true_and, and_true, Nat.sub_self, Nat.sub_zero, Nat.reduceMul, List.replicate_zero, List.append_nil])
            obtain ⟨z, ez, mz⟩ := at_in ra0 ra1
            exact ⟨z, ez, fun es ee => by cases ee; exact h z fsa _ rda (by omega) (by omega) (ch_menu hm he mz)⟩
          · (simp (config := {maxSteps := 3000000}) only [q0, q1, ↓dSeq, ↓dIfS, ↓dRet, ↓dRetN, ↓dAsg, ↓dAsgO, ↓dSet_eq, ↓sc_n, ↓sc_d, ↓sc_o, ↓sc_y, ↓dDrop, ↓dAsgG, ↓dPar2, ↓dPar3, ↓dPopAt, ↓dInsert, ↓dRevL, ↓dRevT, ↓bRepS, ↓dgTup, ↓dgCons, ↓dgName, ↓dgNil, ↓dNext, ↓dBreak, ↓dCont, ↓dVar, ↓dC, ↓dOp, ↓dTest, ↓dAnd, ↓dOr, ↓dNot, ↓dAndV, ↓dOrV, ↓dNotV, ↓dIf, ↓dIfL, ↓dNil, ↓dCons, ↓dTup, ↓dLst, ↓dFrz, ↓dCall, ↓dCallP_h, ↓dCallF_h, ↓dCallN_h, ↓hid_1, ↓dSeqOf, ↓dRange1, ↓dRange2, ↓dEnum, ↓dZip, ↓dForD, ↓forD, ↓dLcD, ↓dYes, ↓dAppend, ↓dPop, ↓dExtend, ↓dSetItem, ↓dTruO, ↓bInt, ↓bAdd, ↓bAddB, ↓dNeg, ↓bEq, ↓bNe, ↓bIs, ↓bIsNot, ↓bLt, ↓bLe, ↓bGt, ↓bGe, ↓bOrd, ↓dChain, ↓bIn, ↓bIx, ↓dIxO, ↓dLenO, ↓dNo, ↓dYesO, ↓dSlice, ↓SlD, ↓dIsi, ↓dIsi2, ↓cLen, ↓cAll, ↓cStr, ↓cInt, ↓cTuple, ↓dListOf, ↓dCat, ↓dJoin, ↓dFmt, ↓dJs, ↓dJoined, ↓dGetT, ↓dInT, ↓dRev1, ↓bRep, ↓q1_at, ↓q2_at, ↓q3_at, ↓popex, ↓atx0, ↓atx1, ↓atx2, ↓atx3, ↓reduceIte,
  wipeD, backD, isInt, cast_succ_ne, at0, at1, at2, at3, ex_some, cut1, eqvS, eqvI, shS, shI, flatD, popget, emp_app, down0, down1, down2, down3, List.dropLast_concat, List.all_cons, List.all_nil, Bool.and_true, decide_eq_true_eq, isTy, isNone, startD, startF, List.map_cons, List.map_nil, List.length_cons, List.length_nil, List.nil_append, List.cons_append, List.replicate, List.getElem?_cons_zero, List.getElem?_cons_succ, List.getElem?_nil, List.set_cons_zero, List.set_cons_succ, List.set_nil, Nat.zero_add, Nat.reduceAdd, Nat.reduceSub, Nat.reduceLT, Nat.reduceLeDiff, Int.reduceAdd, Int.reduceSub, Int.toNat_natCast, if_true, if_false, ite_true, ite_false, Bool.false_eq_true, Bool.not_true, Bool.not_false, Bool.true_eq_false, true_and, and_true, Nat.sub_self, Nat.sub_zero, Nat.reduceMul, List.replicate_zero, List.append_nil])
            refine ⟨_, ((menu.length : Nat) : Int), rdr, by omega, by show _ < (1099511627776 : Int); omega, rfl, by omega, by omega, fun ra fsa ra0 ra1 rda => ?_⟩
            (simp (config := {maxSteps := 3000000}) only [↓dSeq, ↓dIfS, ↓dRet, ↓dRetN, ↓dAsg, ↓dAsgO, ↓dSet_eq, ↓sc_n, ↓sc_d, ↓sc_o, ↓sc_y, ↓dDrop, ↓dAsgG, ↓dPar2, ↓dPar3, ↓dPopAt, ↓dInsert, ↓dRevL, ↓dRevT, ↓bRepS, ↓dgTup, ↓dgCons, ↓dgName, ↓dgNil, ↓dNext, ↓dBreak, ↓dCont, ↓dVar, ↓dC, ↓dOp, ↓dTest, ↓dAnd, ↓dOr, ↓dNot, ↓dAndV, ↓dOrV, ↓dNotV, ↓dIf, ↓dIfL, ↓dNil, ↓dCons, ↓dTup, ↓dLst, ↓dFrz, ↓dCall, ↓dCallP_h, ↓dCallF_h, ↓dCallN_h, ↓hid_1, ↓dSeqOf, ↓dRange1, ↓dRange2, ↓dEnum, ↓dZip, ↓dForD, ↓forD, ↓dLcD, ↓dYes, ↓dAppend, ↓dPop, ↓dExtend, ↓dSetItem, ↓dTruO, ↓bInt, ↓bAdd, ↓bAddB, ↓dNeg, ↓bEq, ↓bNe, ↓bIs, ↓bIsNot, ↓bLt, ↓bLe, ↓bGt, ↓bGe, ↓bOrd, ↓dChain, ↓bIn, ↓bIx, ↓dIxO, ↓dLenO, ↓dNo, ↓dYesO, ↓dSlice, ↓SlD, ↓dIsi, ↓dIsi2, ↓cLen, ↓cAll, ↓cStr, ↓cInt, ↓cTuple, ↓dListOf, ↓dCat, ↓dJoin, ↓dFmt, ↓dJs, ↓dJoined, ↓dGetT, ↓dInT, ↓dRev1, ↓bRep, ↓q1_at, ↓q2_at, ↓q3_at, ↓popex, ↓atx0, ↓atx1, ↓atx2, ↓atx3, ↓reduceIte,
  wipeD, backD, isInt, cast_succ_ne, at0, at1, at2, at3, ex_some, cut1, eqvS, eqvI, shS, shI, flatD, popget, emp_app, down0, down1, down2, down3, List.dropLast_concat, List.all_cons, List.all_nil, Bool.and_true, decide_eq_true_eq, isTy, isNone, startD, startF, List.map_cons, List.map_nil, List.length_cons, List.length_nil, List.nil_append, List.cons_append, List.replicate, List.getElem?_cons_zero, List.getElem?_cons_succ, List.getElem?_nil, List.set_cons_zero, List.set_cons_succ, List.set_nil, Nat.zero_add, Nat.reduceAdd, Nat.reduceSub, Nat.reduceLT, Nat.reduceLeDiff, Int.reduceAdd, Int.reduceSub, Int.toNat_natCast, if_true, if_false, ite_true, ite_false, Bool.false_eq_true, Bool.not_true, Bool.not_false, Bool.true_eq_false, true_and, and_true, Nat.sub_self, Nat.sub_zero, Nat.reduceMul, List.replicate_zero, List.append_nil])
            obtain ⟨z, ez, mz⟩ := at_in ra0 ra1
            exact ⟨z, ez, fun es ee => by cases ee; exact h z fsa _ rda (by omega) (by omega) (ch_menu hm he mz)⟩
  | dict _ => exact False.elim ok
end
end T1

set_option Elab.async false
set_option linter.all false
set_option maxRecDepth 100000
set_option maxHeartbeats 1000000
namespace T1
open PySem PySem.Spec PyProof.Rows L2 DL
local macro_rules | `(tactic| walk_at "ds T1n") => `(tactic| simp only [↓dSeq, ↓dIfS, ↓dRet, ↓dRetN, ↓dAsg, ↓dAsgO, ↓dSet_eq, ↓sc_n, ↓sc_d, ↓sc_o, ↓sc_y, ↓dDrop, ↓dAsgG, ↓dPar2, ↓dPar3, ↓dPopAt, ↓dInsert, ↓dRevL, ↓dRevT, ↓bRepS, ↓dgTup, ↓dgCons, ↓dgName, ↓dgNil, ↓dNext, ↓dBreak, ↓dCont, ↓dVar, ↓dC, ↓dOp, ↓dTest, ↓dAnd, ↓dOr, ↓dNot, ↓dAndV, ↓dOrV, ↓dNotV, ↓dIf, ↓dIfL, ↓dNil, ↓dCons, ↓dTup, ↓dLst, ↓dFrz, ↓dCall, ↓dCallP_h, ↓dCallF_h, ↓dCallN_h, ↓hid_1, ↓dSeqOf, ↓dRange1, ↓dRange2, ↓dEnum, ↓dZip, ↓dForD, ↓forD, ↓dLcD, ↓dYes, ↓dAppend, ↓dPop, ↓dExtend, ↓dSetItem, ↓dTruO, ↓bInt, ↓bAdd, ↓bAddB, ↓dNeg, ↓bEq, ↓bNe, ↓bIs, ↓bIsNot, ↓bLt, ↓bLe, ↓bGt, ↓bGe, ↓bOrd, ↓dChain, ↓bIn, ↓bIx, ↓dIxO, ↓dLenO, ↓dNo, ↓dYesO, ↓dSlice, ↓SlD, ↓dIsi, ↓dIsi2, ↓cLen, ↓cAll, ↓cStr, ↓cInt, ↓cTuple, ↓dListOf, ↓dCat, ↓dJoin, ↓dFmt, ↓dJs, ↓dJoined, ↓dGetT, ↓dInT, ↓dRev1, ↓bRep, ↓q1_at, ↓q2_at, ↓q3_at, ↓popex, ↓atx0, ↓atx1, ↓atx2, ↓atx3, ↓reduceIte,
  wipeD, backD, isInt, cast_succ_ne, at0, at1, at2, at3, ex_some, cut1, eqvS, eqvI, shS, shI, flatD, popget, emp_app, down0, down1, down2, down3, List.dropLast_concat, List.all_cons, List.all_nil, Bool.and_true, decide_eq_true_eq, isTy, isNone, startD, startF, List.map_cons, List.map_nil, List.length_cons, List.length_nil, List.nil_append, List.cons_append, List.replicate, List.getElem?_cons_zero, List.getElem?_cons_succ, List.getElem?_nil, List.set_cons_zero, List.set_cons_succ, List.set_nil, Nat.zero_add, Nat.reduceAdd, Nat.reduceSub, Nat.reduceLT, Nat.reduceLeDiff, Int.reduceAdd, Int.reduceSub, Int.toNat_natCast, if_true, if_false, ite_true, ite_false, Bool.false_eq_true, Bool.not_true, Bool.not_false, Bool.true_eq_false, true_and, and_true, Nat.sub_self, Nat.sub_zero, Nat.reduceMul, List.replicate_zero, List.append_nil])
local macro_rules | `(tactic| walk_at "st T1n") => `(tactic| simp only [startF, startD, List.map_cons, List.map_nil, List.cons_append, List.nil_append, List.length_cons, List.length_nil, List.replicate, Nat.reduceAdd, Nat.reduceSub])

mutual
def okB (e : Nat) : PyData → Bool
  | .none => true
  | .bool _ => true
  | .int i => decide (i.natAbs ≤ e)
  | .str x => x.cps.toList.all fun c => decide (c < 1114112)
  | .list ds => okBL e ds
  | .tuple ds => okBL e ds
  | .dict _ => false
def okBL (e : Nat) : List PyData → Bool
  | [] => true
  | d :: ds => okB e d && okBL e ds
end
mutual
theorem okB_ok {e : Nat} : ∀ {d : PyData}, okB e d = true → okV e d
  | .none, _ => trivial
  | .bool _, _ => trivial
  | .int i, h => of_decide_eq_true (p := i.natAbs ≤ e) h
  | .str x, h => fun c hc => of_decide_eq_true (List.all_eq_true.mp (show (x.cps.toList.all fun c => decide (c < 1114112)) = true from h) c hc)
  | .list ds, h => okBL_ok (ds := ds) h
  | .tuple ds, h => okBL_ok (ds := ds) h
  | .dict _, h => by cases h
theorem okBL_ok {e : Nat} : ∀ {ds : List PyData}, okBL e ds = true → okVL e ds
  | [], _ => trivial
  | d :: ds, h => by
    have h : (okB e d && okBL e ds) = true := h
    rw [Bool.and_eq_true] at h
    exact ⟨okB_ok h.1, okBL_ok h.2⟩
end
def gdB (d : PyData) : Bool := okB (10 ^ 60) d && decide (d.depth ≤ 20) && decide (wt d ≤ 30000)
theorem ten60 : (10 : Nat) ^ 60 ≤ 2 ^ 250 := by decide
theorem gd_dec {d : PyData} (h : gdB d = true) : Ok1 d := by
  unfold gdB at h
  rw [Bool.and_eq_true, Bool.and_eq_true] at h
  exact ⟨okV_le ten60 (okB_ok h.1.1), Nat.le_trans (of_decide_eq_true h.1.2) (by decide), Nat.le_trans (of_decide_eq_true h.2) (by decide)⟩
theorem all_dec {ds : List PyData} (h : ds.all gdB = true) : ∀ z ∈ ds, Ok1 z := fun z hz => gd_dec (List.all_eq_true.mp h z hz)
theorem all_app {ds es : List PyData} (a : ∀ z ∈ ds, Ok1 z) (b : ∀ z ∈ es, Ok1 z) : ∀ z ∈ ds ++ es, Ok1 z := fun z hz => by
  rcases List.mem_append.mp hz with h | h
  · exact a z h
  · exact b z h
def gdN : NSpec := fun ds W => ds = [] ∧ ∀ es, es.length ≤ 1000 → (∀ z ∈ es, Ok1 z) → W es
theorem gdN_mono : MonoN gdN := fun ds W W' m ⟨e, h⟩ => ⟨e, fun es a b => m _ (h es a b)⟩
theorem repS_ch {x : Str} (c : chOk x) : ∀ n, chOk (repS x n) := fun n => by
  have g : ∀ (n : Nat) (z : Array Nat), (∀ c ∈ z.toList, c < 1114112) → ∀ c ∈ ((List.replicate n x.cps).foldl (· ++ ·) z).toList, c < 1114112 := fun n => by
    induction n with
    | zero => intro z hz; exact hz
    | succ n ih =>
      intro z hz
      rw [List.replicate_succ, List.foldl_cons]
      refine ih _ fun c' hc => ?_
      rw [Array.toList_append] at hc
      rcases List.mem_append.mp hc with e | e
      · exact hz c' e
      · exact c c' e
  exact g n #[] fun c hc => nomatch hc
theorem gd_rep : Ok1 (.str (repS "a" (Int.toNat 3000))) := by
  refine ⟨repS_ch chOk_a _, Nat.zero_le _, ?_⟩
  show 10 * (repS "a" (Int.toNat 3000)).length + 6 ≤ 90000
  rw [repS_len, len_a]
  decide
theorem S__law_plain_values : FnScope ["_law_far", "_law_found", "_law_many", "_law_sign"] [] (defScope (top 35)) := ⟨rfl, rfl, rfl, by decide +kernel, rfl, by decide +kernel, by decide +kernel⟩
theorem S__law_expressions : FnScope ["_law_a", "_law_b", "_law_c", "_law_found", "_law_sign", "_law_deep", "_law_far", "_law_k"] [] (defScope (top 36)) := ⟨rfl, rfl, rfl, by decide +kernel, rfl, by decide +kernel, by decide +kernel⟩
def fBob : PyData → PyData | .str y => .str ("bob" ++ y) | _ => .none
section
variable {P : Program} {w : World} {K : PySem.W.Frag} {mg : Str → Option Value} {base : Heap} {k m : Nat} {f : Addr} {fd : FuncData}
theorem ok__law_plain_values (B : B0 mg) (F : Fun K "_law_plain_values" "_law_plain_values" (top 35) f fd) : FnOk P w K mg base CX0 (k + 1) f fd [] (spN K gdN) := by
  refine okN F S__law_plain_values (fun ds Q ⟨e, _⟩ => by rw [e]; rfl) fun cdv A outer s H E R hr => ⟨_, (pdn_cons (pds_set (i := 0) S__law_plain_values.nd (pde_pow pd_int pd_int)) (pdn_cons (pds_set (i := 1) S__law_plain_values.nd (pde_frz (pdl_lst (pda_cons pd_non (pda_cons pd_bl (pda_cons pd_bl (pda_cons pd_int (pda_cons pd_int (pda_cons (pde_neg pd_int) (pda_cons (pd_var 0) (pda_cons (pde_neg (pd_var 0)) (pda_cons pd_str (pda_cons pd_str (pda_cons pd_str pda_nil)))))))))))))) (pdn_cons (pds_set (i := 1) S__law_plain_values.nd (pde_frz (pdl_cat (pd_var 1) (pde_frz (pdl_lst (pda_cons pd_str (pda_cons pd_str (pda_cons pd_str (pda_cons pd_str (pda_cons pd_str (pda_cons pd_str (pda_cons pd_str (pda_cons pd_str pda_nil))))))))))))) (pdn_cons (pds_set (i := 1) S__law_plain_values.nd (pde_frz (pdl_cat (pd_var 1) (pde_frz (pdl_lst (pda_cons pd_str (pda_cons pd_str (pda_cons (pde_repS pd_str pd_int) (pda_cons (pde_tup pda_nil) (pda_cons (pde_frz (pdl_lst pda_nil)) (pda_cons (pde_tup (pda_cons pd_str pda_nil)) (pda_cons (pde_frz (pdl_lst (pda_cons pd_str pda_nil))) (pda_cons (pde_tup (pda_cons pd_str pda_nil)) pda_nil))))))))))))) (pdn_cons (pds_set (i := 1) S__law_plain_values.nd (pde_frz (pdl_cat (pd_var 1) (pde_frz (pdl_lst (pda_cons (pde_tup (pda_cons pd_str (pda_cons pd_str pda_nil))) (pda_cons (pde_tup (pda_cons pd_str (pda_cons pd_str pda_nil))) (pda_cons (pde_tup (pda_cons pd_str (pda_cons pd_str pda_nil))) (pda_cons (pde_tup (pda_cons pd_str (pda_cons pd_str (pda_cons pd_str pda_nil)))) pda_nil))))))))) (pdn_cons (pds_set (i := 2) S__law_plain_values.nd (pde_tuple (pde_frz (pdl_cat (pde_frz (pdl_cat (pde_frz (pdl_lst (pda_cons pd_str pda_nil))) (pde_frz (pdl_lcD (own := [("_law_sign", 3)]) rfl S__law_plain_values.nd (pdi_list pd_str) (blkOk (N := ["_law_far", "_law_found", "_law_many", "_law_sign"]) (sc := defScope (top 35)) rfl (by decide +kernel) (by decide +kernel) (by decide +kernel) (by decide +kernel)) (fun _ _ _ _ _ => (pdg_name 3 S__law_plain_values.nd)) (fun _ _ _ _ _ => pdts_nil) (fun _ _ _ _ _ => (pde_add pd_str (pd_var 3))))))) (pde_frz (pdl_lst (pda_cons pd_str pda_nil))))) B.tuple)) (pdn_ret (pdl_cat (pd_var 1) (pde_frz (pdl_lst (pda_cons (pde_tup (pda_cons pd_str (pda_cons pd_non pda_nil))) (pda_cons (pde_tup (pda_cons (pde_tup (pda_cons pd_str pda_nil)) pda_nil)) (pda_cons (pde_tup (pda_cons pd_str (pda_cons pd_str pda_nil))) (pda_cons (pde_tup (pda_cons pd_bl pda_nil)) (pda_cons (pd_var 2) (pda_cons (pde_add (pd_var 2) (pde_tup (pda_cons pd_str pda_nil))) (pda_cons (pde_revT (pd_var 2)) pda_nil))))))))))))))))), ?_⟩
  rintro ds W ⟨rfl, h⟩
  walk_at "st T1n"
  walk_at "ds T1n"
  refine ⟨⟨by decide, by decide, by decide⟩, ⟨by decide, by decide, by decide, by decide⟩, okW_of, ?_⟩
  refine lcD_map fBob _ _ ?_ ?_ ?_
  · decide
  · intro d hd Y Z hY
    obtain ⟨n, hn, rfl⟩ := List.mem_map.mp hd
    walk_at "ds T1n"
    exact ⟨by show 3 + 1 ≤ 1000000; decide, hY _ rfl⟩
  · rw [List.nil_append]
    refine ⟨by decide, by decide, ?_⟩
    walk_at "ds T1n"
    refine ⟨by decide +kernel, h _ (by simp only [List.length_cons, List.length_nil]; decide) ?_⟩
    generalize hR : PyData.str (repS "a" (Int.toNat 3000)) = RR
    have hRR : Ok1 RR := by rw [← hR]; exact gd_rep
    simp only [List.forall_mem_cons]
    repeat' (first | exact hRR | exact gd_dec (by decide +kernel) | exact fun z hz => nomatch hz | apply And.intro)
end
end T1

set_option Elab.async false
set_option linter.all false
set_option maxRecDepth 100000
set_option maxHeartbeats 1000000
namespace T1
open PySem PySem.Spec PyProof.Rows L2 DL
local macro_rules | `(tactic| walk_at "ds T1e") => `(tactic| simp only [↓dSeq, ↓dN_at, ↓dIfS, ↓dRet, ↓dRetN, ↓dAsg, ↓dAsgO, ↓dSet_eq, ↓sc_n, ↓sc_d, ↓sc_o, ↓sc_y, ↓dDrop, ↓dAsgG, ↓dPar2, ↓dPar3, ↓dPopAt, ↓dInsert, ↓dRevL, ↓dRevT, ↓bRepS, ↓dgTup, ↓dgCons, ↓dgName, ↓dgNil, ↓dNext, ↓dBreak, ↓dCont, ↓dVar, ↓dC, ↓dOp, ↓dTest, ↓dAnd, ↓dOr, ↓dNot, ↓dAndV, ↓dOrV, ↓dNotV, ↓dIf, ↓dIfL, ↓dNil, ↓dCons, ↓dTup, ↓dLst, ↓dFrz, ↓dCall, ↓dCallP_h, ↓dCallF_h, ↓dCallN_h, ↓hid_1, ↓dSeqOf, ↓dRange1, ↓dRange2, ↓dEnum, ↓dZip, ↓dForD, ↓forD, ↓dLcD, ↓dYes, ↓dAppend, ↓dPop, ↓dExtend, ↓dSetItem, ↓dTruO, ↓bInt, ↓bAdd, ↓bAddB, ↓dNeg, ↓bEq, ↓bNe, ↓bIs, ↓bIsNot, ↓bLt, ↓bLe, ↓bGt, ↓bGe, ↓bOrd, ↓dChain, ↓bIn, ↓bIx, ↓dIxO, ↓dLenO, ↓dNo, ↓dYesO, ↓dSlice, ↓SlD, ↓dIsi, ↓dIsi2, ↓cLen, ↓cAll, ↓cStr, ↓cInt, ↓cTuple, ↓dListOf, ↓dCat, ↓dJoin, ↓dFmt, ↓dJs, ↓dJoined, ↓dGetT, ↓dInT, ↓dRev1, ↓bRep, ↓q1_at, ↓q2_at, ↓q3_at, ↓popex, ↓atx0, ↓atx1, ↓atx2, ↓atx3, ↓reduceIte,
  wipeD, backD, isInt, cast_succ_ne, at0, at1, at2, at3, ex_some, cut1, eqvS, eqvI, shS, shI, flatD, popget, emp_app, down0, down1, down2, down3, List.dropLast_concat, List.all_cons, List.all_nil, Bool.and_true, decide_eq_true_eq, isTy, isNone, startD, startF, List.map_cons, List.map_nil, List.length_cons, List.length_nil, List.nil_append, List.cons_append, List.replicate, List.getElem?_cons_zero, List.getElem?_cons_succ, List.getElem?_nil, List.set_cons_zero, List.set_cons_succ, List.set_nil, Nat.zero_add, Nat.reduceAdd, Nat.reduceSub, Nat.reduceLT, Nat.reduceLeDiff, Int.reduceAdd, Int.reduceSub, Int.toNat_natCast, if_true, if_false, ite_true, ite_false, Bool.false_eq_true, Bool.not_true, Bool.not_false, Bool.true_eq_false, true_and, and_true, Nat.sub_self, Nat.sub_zero, Nat.reduceMul, List.replicate_zero, List.append_nil])
local macro_rules | `(tactic| walk_at "st T1e") => `(tactic| simp only [startF, startD, List.map_cons, List.map_nil, List.cons_append, List.nil_append, List.length_cons, List.length_nil, List.replicate, Nat.reduceAdd, Nat.reduceSub])
theorem wtL_le {c : Nat} : ∀ {l : List PyData}, (∀ z ∈ l, wt z ≤ c) → wtL l ≤ l.length * (c + 2)
  | [], _ => Nat.zero_le _
  | z :: r, h => by
    have a := h z List.mem_cons_self
    have b := wtL_le (l := r) fun x hx => h x (List.mem_cons_of_mem _ hx)
    show wt z + 2 + wtL r ≤ (r.length + 1) * (c + 2)
    rw [Nat.succ_mul]; omega
theorem gdT {e n c : Nat} {ds : List PyData} (h : ∀ z ∈ ds, Gd e n c z) (l : ds.length ≤ 3) : Gd e (n + 1) (3 * c + 12) (.tuple ds) := by
  refine ⟨okVL_iff.mpr fun z hz => (h z hz).ok, ?_, ?_⟩
  · show PyData.depthAll ds + 1 ≤ n + 1
    have := depth_allL fun z hz => (h z hz).dp
    omega
  · show 6 + wtL ds ≤ 3 * c + 12
    have a := wtL_le fun z hz => (h z hz).wt
    have b : ds.length * (c + 2) ≤ 3 * (c + 2) := Nat.mul_le_mul_right _ l
    omega
theorem gd_not {e n c : Nat} {d : PyData} (h : Gd e n c d) : Gd e (n + 1) (c + 120) (.tuple [.str "not", d]) := by
  refine ⟨⟨?_, h.ok, trivial⟩, ?_, ?_⟩
  · exact okB_ok (e := 0) (d := .str "not") (by decide +kernel)
  · show max 0 (max d.depth 0) + 1 ≤ n + 1
    have := h.dp; omega
  · have := h.wt
    show 6 + (10 * (Str.ofString "not").length + 6 + 2 + (wt d + 2 + 0)) ≤ c + 120
    have e1 : (Str.ofString "not").length = 3 := rfl
    omega
theorem gd_plus {e n c : Nat} {d : PyData} (he : 1 ≤ e) (h : Gd e n c d) : Gd e (n + 1) (c + 120) (.tuple [.str "+", d, .int 1]) := by
  refine ⟨⟨?_, h.ok, he, trivial⟩, ?_, ?_⟩
  · exact okB_ok (e := 0) (d := .str "+") (by decide +kernel)
  · show max 0 (max d.depth (max 0 0)) + 1 ≤ n + 1
    have := h.dp; omega
  · have := h.wt
    show 6 + (10 * (Str.ofString "+").length + 6 + 2 + (wt d + 2 + (90 + 2 + 0))) ≤ c + 120
    have e1 : (Str.ofString "+").length = 1 := rfl
    omega
theorem gd_ok {n c : Nat} {d : PyData} (h : Gd (10 ^ 60) n c d) (hn : n ≤ 50) (hc : c ≤ 90000) : Ok1 d := h.le ten60 hn hc
def signs14 : List Str := ["+", "-", "*", "least", "most", "=", "<", "and", "or", "/", "max", "if", ">", "<="]
abbrev eA : PyData := .tuple [.str "of", .str "ann", .str "pay"]
abbrev eB : PyData := .tuple [.str "my", .str "pay"]
abbrev eC : PyData := .tuple [.str "=", .int 0, .int 0]
def i4 (x : Str) : List PyData := [.tuple [.str x, eA, .int 1], .tuple [.str x, eA], .tuple [.str x, eA, .int 1, .int 2], .tuple [.str x, eC, eC]]
def j4 (x : Str) : List PyData := [.tuple [.str x, eA, eC], .tuple [.str x, eC, .int 1], .tuple [.str x, .bool true, .int 1], .tuple [.str x]]
theorem i4_ok {x : Str} (h : x ∈ signs14) : (i4 x).all gdB = true := List.all_eq_true.mp (show (signs14.all fun x => (i4 x).all gdB) = true by decide +kernel) x h
theorem j4_ok {x : Str} (h : x ∈ signs14) : (j4 x).all gdB = true := List.all_eq_true.mp (show (signs14.all fun x => (j4 x).all gdB) = true by decide +kernel) x h
def J1 (i : Nat) (Γ : DEnv) : Prop := ∃ es y4, Γ = [some (Ent.dat eA), some (Ent.dat eB), some (Ent.dat eC), some (Ent.dat (.list es)), odat y4, none, none, none] ∧ (∀ z ∈ es, Ok1 z) ∧ es.length = 15 + 8 * i
def J2 (es : List PyData) (y4 : Option PyData) (i : Nat) (Γ : DEnv) : Prop := ∃ d1 d2 y7, Γ = [some (Ent.dat eA), some (Ent.dat eB), some (Ent.dat eC), some (Ent.dat (.list es)), odat y4, some (Ent.dat d1), some (Ent.dat d2), odat y7] ∧ Gd (10 ^ 60) (i + 3) (400 + 120 * i) d1 ∧ Gd (10 ^ 60) (i + 3) (400 + 120 * i) d2
theorem upto_at {lo : Int} {n j : Nat} {d : PyData} (h : (upto lo n)[j]? = some d) : j < n ∧ d = .int (lo + (j : Nat)) := by
  have hj : j < n := by
    have := (List.getElem?_eq_some_iff.mp h).1
    rw [upto_len] at this
    exact this
  rw [upto_get hj] at h
  exact ⟨hj, (Option.some.inj h).symm⟩
section
variable {P : Program} {w : World} {K : PySem.W.Frag} {mg : Str → Option Value} {base : Heap} {k m : Nat} {f : Addr} {fd : FuncData}
theorem ok__law_expressions (B : B0 mg) (F : Fun K "_law_expressions" "_law_expressions" (top 36) f fd) : FnOk P w K mg base CX0 (k + 1) f fd [] (spN K gdN) := by
  refine okN F S__law_expressions (fun ds Q ⟨e, _⟩ => by rw [e]; rfl) fun cdv A outer s H E R hr => ⟨_, (pdn_consH (pds_asg (pde_tup (pda_cons (pde_tup (pda_cons pd_str (pda_cons pd_str (pda_cons pd_str pda_nil)))) (pda_cons (pde_tup (pda_cons pd_str (pda_cons pd_str pda_nil))) (pda_cons (pde_tup (pda_cons pd_str (pda_cons pd_int (pda_cons pd_int pda_nil)))) pda_nil)))) (pdg_tup (n := 3) rfl (pdgs_cons (pdg_name 0 S__law_expressions.nd) (pdgs_cons (pdg_name 1 S__law_expressions.nd) (pdgs_cons (pdg_name 2 S__law_expressions.nd) pdgs_nil))))) (pdn_consH (pds_set (i := 3) S__law_expressions.nd (pde_frz (pdl_lst (pda_cons (pd_var 0) (pda_cons (pd_var 1) (pda_cons (pd_var 2) (pda_cons (pde_tup (pda_cons pd_str (pda_cons pd_str pda_nil))) (pda_cons (pde_tup (pda_cons pd_str (pda_cons pd_str (pda_cons pd_str (pda_cons pd_str pda_nil))))) pda_nil)))))))) (pdn_consH (pds_set (i := 3) S__law_expressions.nd (pde_frz (pdl_cat (pd_var 3) (pde_frz (pdl_lst (pda_cons (pde_tup (pda_cons pd_str (pda_cons pd_str (pda_cons pd_str pda_nil)))) (pda_cons (pde_tup (pda_cons pd_str (pda_cons pd_int (pda_cons pd_str pda_nil)))) (pda_cons (pde_tup (pda_cons pd_str pda_nil)) (pda_cons (pde_tup (pda_cons pd_str (pda_cons pd_str (pda_cons pd_str pda_nil)))) pda_nil))))))))) (pdn_consH (pds_set (i := 3) S__law_expressions.nd (pde_frz (pdl_cat (pd_var 3) (pde_frz (pdl_lst (pda_cons (pde_tup (pda_cons pd_str (pda_cons (pde_tup (pda_cons pd_str pda_nil)) pda_nil))) (pda_cons (pde_tup (pda_cons pd_str (pda_cons pd_str (pda_cons pd_non pda_nil)))) (pda_cons (pde_tup (pda_cons pd_str (pda_cons pd_str pda_nil))) pda_nil)))))))) (pdn_consH (pds_set (i := 3) S__law_expressions.nd (pde_frz (pdl_cat (pd_var 3) (pde_frz (pdl_lst (pda_cons (pde_tup (pda_cons pd_str (pda_cons pd_str pda_nil))) (pda_cons (pde_frz (pdl_lst (pda_cons pd_str (pda_cons pd_str pda_nil)))) (pda_cons (pde_tup (pda_cons pd_str (pda_cons pd_str (pda_cons pd_str pda_nil)))) pda_nil)))))))) (pdn_consH (pds_forD PassesOwn.never rfl (pdi_list (pde_tup (pda_cons pd_str (pda_cons pd_str (pda_cons pd_str (pda_cons pd_str (pda_cons pd_str (pda_cons pd_str (pda_cons pd_str (pda_cons pd_str (pda_cons pd_str (pda_cons pd_str (pda_cons pd_str (pda_cons pd_str (pda_cons pd_str (pda_cons pd_str pda_nil)))))))))))))))) (pdg_name 4 S__law_expressions.nd) (pdss_cons (pds_set (i := 3) S__law_expressions.nd (pde_frz (pdl_cat (pd_var 3) (pde_frz (pdl_lst (pda_cons (pde_tup (pda_cons (pd_var 4) (pda_cons (pd_var 0) (pda_cons pd_int pda_nil)))) (pda_cons (pde_tup (pda_cons (pd_var 4) (pda_cons (pd_var 0) pda_nil))) (pda_cons (pde_tup (pda_cons (pd_var 4) (pda_cons (pd_var 0) (pda_cons pd_int (pda_cons pd_int pda_nil))))) (pda_cons (pde_tup (pda_cons (pd_var 4) (pda_cons (pd_var 2) (pda_cons (pd_var 2) pda_nil)))) pda_nil))))))))) (pdss_one (pds_set (i := 3) S__law_expressions.nd (pde_frz (pdl_cat (pd_var 3) (pde_frz (pdl_lst (pda_cons (pde_tup (pda_cons (pd_var 4) (pda_cons (pd_var 0) (pda_cons (pd_var 2) pda_nil)))) (pda_cons (pde_tup (pda_cons (pd_var 4) (pda_cons (pd_var 2) (pda_cons pd_int pda_nil)))) (pda_cons (pde_tup (pda_cons (pd_var 4) (pda_cons pd_bl (pda_cons pd_int pda_nil)))) (pda_cons (pde_tup (pda_cons (pd_var 4) pda_nil)) pda_nil)))))))))))) (pdn_consH (pds_set (i := 3) S__law_expressions.nd (pde_frz (pdl_cat (pd_var 3) (pde_frz (pdl_lst (pda_cons (pde_tup (pda_cons pd_str (pda_cons (pd_var 2) pda_nil))) (pda_cons (pde_tup (pda_cons pd_str (pda_cons (pd_var 0) pda_nil))) (pda_cons (pde_tup (pda_cons pd_str pda_nil)) (pda_cons (pde_tup (pda_cons pd_str (pda_cons (pd_var 2) (pda_cons (pd_var 2) pda_nil)))) (pda_cons (pde_tup (pda_cons pd_str (pda_cons (pde_tup (pda_cons pd_str (pda_cons (pd_var 2) pda_nil))) pda_nil))) pda_nil)))))))))) (pdn_consH (pds_set (i := 3) S__law_expressions.nd (pde_frz (pdl_cat (pd_var 3) (pde_frz (pdl_lst (pda_cons (pde_tup (pda_cons pd_str (pda_cons (pd_var 2) (pda_cons pd_int (pda_cons pd_int pda_nil))))) (pda_cons (pde_tup (pda_cons pd_str (pda_cons (pd_var 2) (pda_cons pd_int pda_nil)))) (pda_cons (pde_tup (pda_cons pd_str (pda_cons pd_int (pda_cons pd_int (pda_cons pd_int pda_nil))))) pda_nil)))))))) (pdn_consH (pds_set (i := 3) S__law_expressions.nd (pde_frz (pdl_cat (pd_var 3) (pde_frz (pdl_lst (pda_cons (pde_tup (pda_cons pd_str (pda_cons (pd_var 2) (pda_cons (pd_var 2) (pda_cons pd_int pda_nil))))) (pda_cons (pde_tup (pda_cons pd_str (pda_cons (pd_var 2) (pda_cons (pd_var 0) (pda_cons (pde_tup (pda_cons pd_str (pda_cons (pd_var 2) (pda_cons pd_int (pda_cons pd_int pda_nil))))) pda_nil))))) pda_nil))))))) (pdn_consH (pds_set (i := 3) S__law_expressions.nd (pde_frz (pdl_cat (pd_var 3) (pde_frz (pdl_lst (pda_cons (pde_tup (pda_cons pd_str (pda_cons (pd_var 2) pda_nil))) (pda_cons (pde_tup (pda_cons pd_str (pda_cons (pd_var 0) pda_nil))) (pda_cons (pde_tup (pda_cons pd_str (pda_cons (pd_var 2) (pda_cons (pd_var 2) pda_nil)))) (pda_cons (pde_tup (pda_cons pd_str pda_nil)) pda_nil))))))))) (pdn_consH (pds_set (i := 3) S__law_expressions.nd (pde_frz (pdl_cat (pd_var 3) (pde_frz (pdl_lst (pda_cons (pde_tup (pda_cons pd_str (pda_cons (pd_var 0) (pda_cons (pd_var 2) pda_nil)))) (pda_cons (pde_tup (pda_cons pd_str (pda_cons (pd_var 2) (pda_cons (pd_var 0) pda_nil)))) (pda_cons (pde_tup (pda_cons pd_str (pda_cons (pd_var 0) pda_nil))) (pda_cons (pde_tup (pda_cons pd_str (pda_cons (pd_var 0) (pda_cons (pd_var 2) (pda_cons (pd_var 2) pda_nil))))) pda_nil))))))))) (pdn_consH (pds_set (i := 3) S__law_expressions.nd (pde_frz (pdl_cat (pd_var 3) (pde_frz (pdl_lst (pda_cons (pde_tup (pda_cons pd_str (pda_cons (pde_tup (pda_cons pd_str (pda_cons (pd_var 2) pda_nil))) (pda_cons (pde_tup (pda_cons pd_str (pda_cons (pde_tup (pda_cons pd_str (pda_cons (pd_var 1) (pda_cons (pd_var 2) pda_nil)))) (pda_cons pd_int pda_nil)))) pda_nil)))) pda_nil)))))) (pdn_consH (pds_par2 (i := 5) (j := 6) rfl S__law_expressions.nd (pda_cons (pd_var 2) (pda_cons (pd_var 0) pda_nil))) (pdn_consH (pds_forD PassesOwn.never rfl (pdi_range1 rfl B.range (pda_cons pd_int pda_nil)) (pdg_name 7 S__law_expressions.nd) (pdss_one (pds_par2 (i := 5) (j := 6) rfl S__law_expressions.nd (pda_cons (pde_tup (pda_cons pd_str (pda_cons (pd_var 5) pda_nil))) (pda_cons (pde_tup (pda_cons pd_str (pda_cons (pd_var 6) (pda_cons pd_int pda_nil)))) pda_nil))))) (pdn_consH (pds_set (i := 3) S__law_expressions.nd (pde_frz (pdl_cat (pd_var 3) (pde_frz (pdl_lst (pda_cons (pd_var 5) (pda_cons (pd_var 6) (pda_cons (pde_tup (pda_cons pd_str (pda_cons (pd_var 5) pda_nil))) (pda_cons (pde_tup (pda_cons pd_str (pda_cons (pd_var 6) (pda_cons (pd_var 6) pda_nil)))) (pda_cons (pde_tup (pda_cons pd_str (pda_cons (pd_var 5) (pda_cons (pde_tup (pda_cons pd_str (pda_cons (pd_var 6) pda_nil))) pda_nil)))) pda_nil)))))))))) (pdn_ret (pdl_cat (pd_var 3) (pde_frz (pdl_lst (pda_cons (pde_tup (pda_cons pd_str (pda_cons (pd_var 6) (pda_cons (pde_tup (pda_cons pd_str (pda_cons pd_int (pda_cons pd_non pda_nil)))) pda_nil)))) pda_nil)))))))))))))))))))), ?_⟩
  rintro ds W ⟨rfl, h⟩
  walk_at "st T1e"
  (simp (config := {maxSteps := 3000000}) only [↓dSeq, ↓dN_at, ↓dIfS, ↓dRet, ↓dRetN, ↓dAsg, ↓dAsgO, ↓dSet_eq, ↓sc_n, ↓sc_d, ↓sc_o, ↓sc_y, ↓dDrop, ↓dAsgG, ↓dPar2, ↓dPar3, ↓dPopAt, ↓dInsert, ↓dRevL, ↓dRevT, ↓bRepS, ↓dgTup, ↓dgCons, ↓dgName, ↓dgNil, ↓dNext, ↓dBreak, ↓dCont, ↓dVar, ↓dC, ↓dOp, ↓dTest, ↓dAnd, ↓dOr, ↓dNot, ↓dAndV, ↓dOrV, ↓dNotV, ↓dIf, ↓dIfL, ↓dNil, ↓dCons, ↓dTup, ↓dLst, ↓dFrz, ↓dCall, ↓dCallP_h, ↓dCallF_h, ↓dCallN_h, ↓hid_1, ↓dSeqOf, ↓dRange1, ↓dRange2, ↓dEnum, ↓dZip, ↓dForD, ↓dLcD, ↓dYes, ↓dAppend, ↓dPop, ↓dExtend, ↓dSetItem, ↓dTruO, ↓bInt, ↓bAdd, ↓bAddB, ↓dNeg, ↓bEq, ↓bNe, ↓bIs, ↓bIsNot, ↓bLt, ↓bLe, ↓bGt, ↓bGe, ↓bOrd, ↓dChain, ↓bIn, ↓bIx, ↓dIxO, ↓dLenO, ↓dNo, ↓dYesO, ↓dSlice, ↓SlD, ↓dIsi, ↓dIsi2, ↓cLen, ↓cAll, ↓cStr, ↓cInt, ↓cTuple, ↓dListOf, ↓dCat, ↓dJoin, ↓dFmt, ↓dJs, ↓dJoined, ↓dGetT, ↓dInT, ↓dRev1, ↓bRep, ↓q1_at, ↓q2_at, ↓q3_at, ↓popex, ↓atx0, ↓atx1, ↓atx2, ↓atx3, ↓reduceIte,
  wipeD, backD, isInt, cast_succ_ne, at0, at1, at2, at3, ex_some, cut1, eqvS, eqvI, shS, shI, flatD, popget, emp_app, down0, down1, down2, down3, List.dropLast_concat, List.all_cons, List.all_nil, Bool.and_true, decide_eq_true_eq, isTy, isNone, startD, startF, List.map_cons, List.map_nil, List.length_cons, List.length_nil, List.nil_append, List.cons_append, List.replicate, List.getElem?_cons_zero, List.getElem?_cons_succ, List.getElem?_nil, List.set_cons_zero, List.set_cons_succ, List.set_nil, Nat.zero_add, Nat.reduceAdd, Nat.reduceSub, Nat.reduceLT, Nat.reduceLeDiff, Int.reduceAdd, Int.reduceSub, Int.toNat_natCast, if_true, if_false, ite_true, ite_false, Bool.false_eq_true, Bool.not_true, Bool.not_false, Bool.true_eq_false, true_and, and_true, Nat.sub_self, Nat.sub_zero, Nat.reduceMul, List.replicate_zero, List.append_nil])
  refine forD_inv J1 _ 0 _ ?_ ⟨_, none, rfl, all_dec (by decide +kernel), rfl⟩ ?_
  · rintro j d e Γ N ⟨es, y4, rfl, ho, hl⟩ next
    have jl := getlt e
    have jl : j < 14 := jl
    obtain ⟨x, rfl, hx⟩ : ∃ x, d = .str x ∧ x ∈ signs14 := by
      have : d ∈ signs14.map PyData.str := List.mem_of_getElem? e
      obtain ⟨x, hx, rfl⟩ := List.mem_map.mp this -- k01
      exact ⟨x, rfl, hx⟩
    walk_at "ds T1e"
    refine ⟨by omega, by simp only [List.length_append, List.length_cons, List.length_nil]; omega, next _ ⟨es ++ i4 x ++ j4 x, some (.str x), rfl, all_app (all_app ho (all_dec (i4_ok hx))) (all_dec (j4_ok hx)), ?_⟩⟩
    simp only [i4, j4, List.length_append, List.length_cons, List.length_nil]; omega
  · rintro Γ ⟨es, y4, rfl, ho, hl⟩
    have hl : es.length = 127 := hl
    (simp (config := {maxSteps := 3000000}) only [↓dSeq, ↓dN_at, ↓dIfS, ↓dRet, ↓dRetN, ↓dAsg, ↓dAsgO, ↓dSet_eq, ↓sc_n, ↓sc_d, ↓sc_o, ↓sc_y, ↓dDrop, ↓dAsgG, ↓dPar2, ↓dPar3, ↓dPopAt, ↓dInsert, ↓dRevL, ↓dRevT, ↓bRepS, ↓dgTup, ↓dgCons, ↓dgName, ↓dgNil, ↓dNext, ↓dBreak, ↓dCont, ↓dVar, ↓dC, ↓dOp, ↓dTest, ↓dAnd, ↓dOr, ↓dNot, ↓dAndV, ↓dOrV, ↓dNotV, ↓dIf, ↓dIfL, ↓dNil, ↓dCons, ↓dTup, ↓dLst, ↓dFrz, ↓dCall, ↓dCallP_h, ↓dCallF_h, ↓dCallN_h, ↓hid_1, ↓dSeqOf, ↓dRange1, ↓dRange2, ↓dEnum, ↓dZip, ↓dForD, ↓dLcD, ↓dYes, ↓dAppend, ↓dPop, ↓dExtend, ↓dSetItem, ↓dTruO, ↓bInt, ↓bAdd, ↓bAddB, ↓dNeg, ↓bEq, ↓bNe, ↓bIs, ↓bIsNot, ↓bLt, ↓bLe, ↓bGt, ↓bGe, ↓bOrd, ↓dChain, ↓bIn, ↓bIx, ↓dIxO, ↓dLenO, ↓dNo, ↓dYesO, ↓dSlice, ↓SlD, ↓dIsi, ↓dIsi2, ↓cLen, ↓cAll, ↓cStr, ↓cInt, ↓cTuple, ↓dListOf, ↓dCat, ↓dJoin, ↓dFmt, ↓dJs, ↓dJoined, ↓dGetT, ↓dInT, ↓dRev1, ↓bRep, ↓q1_at, ↓q2_at, ↓q3_at, ↓popex, ↓atx0, ↓atx1, ↓atx2, ↓atx3, ↓reduceIte,
  wipeD, backD, isInt, cast_succ_ne, at0, at1, at2, at3, ex_some, cut1, eqvS, eqvI, shS, shI, flatD, popget, emp_app, down0, down1, down2, down3, List.dropLast_concat, List.all_cons, List.all_nil, Bool.and_true, decide_eq_true_eq, isTy, isNone, startD, startF, List.map_cons, List.map_nil, List.length_cons, List.length_nil, List.nil_append, List.cons_append, List.replicate, List.getElem?_cons_zero, List.getElem?_cons_succ, List.getElem?_nil, List.set_cons_zero, List.set_cons_succ, List.set_nil, Nat.zero_add, Nat.reduceAdd, Nat.reduceSub, Nat.reduceLT, Nat.reduceLeDiff, Int.reduceAdd, Int.reduceSub, Int.toNat_natCast, if_true, if_false, ite_true, ite_false, Bool.false_eq_true, Bool.not_true, Bool.not_false, Bool.true_eq_false, true_and, and_true, Nat.sub_self, Nat.sub_zero, Nat.reduceMul, List.replicate_zero, List.append_nil])
    (first | skip)
    refine And.intro (by omega) ?_
    iterate 5 refine And.intro (by simp only [List.length_append, List.length_cons, List.length_nil]; omega) ?_
    refine ⟨by decide, by decide, ?_⟩
    refine forD_inv (J2 _ y4) _ 0 _ ?_ ⟨_, _, none, rfl, ⟨okB_ok (by decide +kernel), by decide, by decide⟩, ⟨okB_ok (by decide +kernel), by decide, by decide⟩⟩ ?_
    · rintro j d e Γ N ⟨d1, d2, y7, rfl, g1, g2⟩ next
      obtain ⟨hj, rfl⟩ := upto_at e
      walk_at "ds T1e"
      exact next _ ⟨_, _, some _, rfl, (gd_not g1).le (Nat.le_refl _) (by omega) (by omega), (gd_plus (by decide) g2).le (Nat.le_refl _) (by omega) (by omega)⟩
    · rintro Γ ⟨d1, d2, y7, rfl, g1, g2⟩
      have g1 : Gd (10 ^ 60) 13 1600 d1 := g1
      have g2 : Gd (10 ^ 60) 13 1600 d2 := g2
      (simp (config := {maxSteps := 3000000}) only [↓dSeq, ↓dN_at, ↓dIfS, ↓dRet, ↓dRetN, ↓dAsg, ↓dAsgO, ↓dSet_eq, ↓sc_n, ↓sc_d, ↓sc_o, ↓sc_y, ↓dDrop, ↓dAsgG, ↓dPar2, ↓dPar3, ↓dPopAt, ↓dInsert, ↓dRevL, ↓dRevT, ↓bRepS, ↓dgTup, ↓dgCons, ↓dgName, ↓dgNil, ↓dNext, ↓dBreak, ↓dCont, ↓dVar, ↓dC, ↓dOp, ↓dTest, ↓dAnd, ↓dOr, ↓dNot, ↓dAndV, ↓dOrV, ↓dNotV, ↓dIf, ↓dIfL, ↓dNil, ↓dCons, ↓dTup, ↓dLst, ↓dFrz, ↓dCall, ↓dCallP_h, ↓dCallF_h, ↓dCallN_h, ↓hid_1, ↓dSeqOf, ↓dRange1, ↓dRange2, ↓dEnum, ↓dZip, ↓dForD, ↓forD, ↓dLcD, ↓dYes, ↓dAppend, ↓dPop, ↓dExtend, ↓dSetItem, ↓dTruO, ↓bInt, ↓bAdd, ↓bAddB, ↓dNeg, ↓bEq, ↓bNe, ↓bIs, ↓bIsNot, ↓bLt, ↓bLe, ↓bGt, ↓bGe, ↓bOrd, ↓dChain, ↓bIn, ↓bIx, ↓dIxO, ↓dLenO, ↓dNo, ↓dYesO, ↓dSlice, ↓SlD, ↓dIsi, ↓dIsi2, ↓cLen, ↓cAll, ↓cStr, ↓cInt, ↓cTuple, ↓dListOf, ↓dCat, ↓dJoin, ↓dFmt, ↓dJs, ↓dJoined, ↓dGetT, ↓dInT, ↓dRev1, ↓bRep, ↓q1_at, ↓q2_at, ↓q3_at, ↓popex, ↓atx0, ↓atx1, ↓atx2, ↓atx3, ↓reduceIte,
  wipeD, backD, isInt, cast_succ_ne, at0, at1, at2, at3, ex_some, cut1, eqvS, eqvI, shS, shI, flatD, popget, emp_app, down0, down1, down2, down3, List.dropLast_concat, List.all_cons, List.all_nil, Bool.and_true, decide_eq_true_eq, isTy, isNone, startD, startF, List.map_cons, List.map_nil, List.length_cons, List.length_nil, List.nil_append, List.cons_append, List.replicate, List.getElem?_cons_zero, List.getElem?_cons_succ, List.getElem?_nil, List.set_cons_zero, List.set_cons_succ, List.set_nil, Nat.zero_add, Nat.reduceAdd, Nat.reduceSub, Nat.reduceLT, Nat.reduceLeDiff, Int.reduceAdd, Int.reduceSub, Int.toNat_natCast, if_true, if_false, ite_true, ite_false, Bool.false_eq_true, Bool.not_true, Bool.not_false, Bool.true_eq_false, true_and, and_true, Nat.sub_self, Nat.sub_zero, Nat.reduceMul, List.replicate_zero, List.append_nil])
      have wd : ∀ x : Str, gdB (.str x) = true → wt (.str x) ≤ 100 → Gd (10 ^ 60) 14 1720 (.str x) := fun x h1 h2 => by
        unfold gdB at h1
        rw [Bool.and_eq_true, Bool.and_eq_true] at h1
        exact ⟨okB_ok h1.1.1, Nat.zero_le _, Nat.le_trans h2 (by decide)⟩
      have k1 : Gd (10 ^ 60) 14 1720 d1 := g1.le (Nat.le_refl _) (by decide) (by decide)
      have k2 : Gd (10 ^ 60) 14 1720 d2 := g2.le (Nat.le_refl _) (by decide) (by decide)
      have c1 : Gd (10 ^ 60) 15 5172 (.tuple [.str "count", d1]) := gdT (n := 14) (c := 1720) (fun z hz => by
        simp only [List.mem_cons, List.not_mem_nil, or_false] at hz
        rcases hz with rfl | rfl
        · exact wd _ (by decide +kernel) (by decide)
        · exact k1) (by simp)
      have c2 : Gd (10 ^ 60) 15 5172 (.tuple [.str "=", d2, d2]) := gdT (n := 14) (c := 1720) (fun z hz => by
        simp only [List.mem_cons, List.not_mem_nil, or_false] at hz
        rcases hz with rfl | rfl | rfl
        · exact wd _ (by decide +kernel) (by decide)
        · exact k2
        · exact k2) (by simp)
      have c3 : Gd (10 ^ 60) 15 5172 (.tuple [.str "and", d1, .tuple [.str "not", d2]]) := gdT (n := 14) (c := 1720) (fun z hz => by
        simp only [List.mem_cons, List.not_mem_nil, or_false] at hz
        rcases hz with rfl | rfl | rfl
        · exact wd _ (by decide +kernel) (by decide)
        · exact k1
        · exact (gd_not g2).le (Nat.le_refl _) (by decide) (by decide)) (by simp)
      have c4 : Gd (10 ^ 60) 15 5172 (.tuple [.str "+", d2, .tuple [.str "+", .int 1, .none]]) := gdT (n := 14) (c := 1720) (fun z hz => by
        simp only [List.mem_cons, List.not_mem_nil, or_false] at hz
        rcases hz with rfl | rfl | rfl
        · exact wd _ (by decide +kernel) (by decide)
        · exact k2
        · exact ⟨okB_ok (by decide +kernel), by decide, by decide⟩) (by simp)
      have o : ∀ {z : PyData}, Gd (10 ^ 60) 15 5172 z → Ok1 z := fun h => gd_ok h (by decide) (by decide)
      have hA : ∀ z ∈ [d1, d2, PyData.tuple [.str "count", d1], .tuple [.str "=", d2, d2], .tuple [.str "and", d1, .tuple [.str "not", d2]]], Ok1 z := fun z hz => by
        simp only [List.mem_cons, List.not_mem_nil, or_false] at hz
        rcases hz with rfl | rfl | rfl | rfl | rfl
        · exact o (k1.le (Nat.le_refl _) (by decide) (by decide))
        · exact o (k2.le (Nat.le_refl _) (by decide) (by decide))
        · exact o c1
        · exact o c2
        · exact o c3
      have hB : ∀ z ∈ [PyData.tuple [.str "+", d2, .tuple [.str "+", .int 1, .none]]], Ok1 z := fun z hz => by
        rw [List.mem_singleton.mp hz]; exact o c4
      refine ⟨by simp only [List.length_append, List.length_cons, List.length_nil]; omega, by simp only [List.length_append, List.length_cons, List.length_nil]; omega, h _ (by simp only [List.length_append, List.length_cons, List.length_nil]; omega) ?_⟩
      exact all_app (all_app (all_app (all_app (all_app (all_app (all_app (all_app ho (all_dec (by decide +kernel))) (all_dec (by decide +kernel))) (all_dec (by decide +kernel))) (all_dec (by decide +kernel))) (all_dec (by decide +kernel))) (all_dec (by decide +kernel))) hA) hB
end
end T1

set_option Elab.async false
set_option linter.all false
set_option maxRecDepth 100000
set_option maxHeartbeats 1000000
namespace T1
open PySem PySem.Spec PyProof.Rows L2 DL
theorem cRepr_at {d : PyData} {W : PyData → Prop} : cRepr [d] W ↔ Wr d ∧ W (.str d.shown) := ⟨fun ⟨_, e, a, b, c, h⟩ => by cases e; exact ⟨⟨a, b, c⟩, h⟩, fun ⟨⟨a, b, c⟩, h⟩ => ⟨d, rfl, a, b, c, h⟩⟩
local macro_rules | `(tactic| walk_at "ds T1l") => `(tactic| simp only [↓cRepr_at, ↓bNeS, ↓bEqS, ↓dSeq, ↓dN_at, ↓dIfS, ↓dRet, ↓dRetN, ↓dAsg, ↓dAsgO, ↓dSet_eq, ↓sc_n, ↓sc_d, ↓sc_o, ↓sc_y, ↓dDrop, ↓dAsgG, ↓dPar2, ↓dPar3, ↓dPopAt, ↓dInsert, ↓dRevL, ↓dRevT, ↓bRepS, ↓dgTup, ↓dgCons, ↓dgName, ↓dgNil, ↓dNext, ↓dBreak, ↓dCont, ↓dVar, ↓dC, ↓dOp, ↓dTest, ↓dAnd, ↓dOr, ↓dNot, ↓dAndV, ↓dOrV, ↓dNotV, ↓dIf, ↓dIfL, ↓dNil, ↓dCons, ↓dTup, ↓dLst, ↓dFrz, ↓dCall, ↓dCallP_h, ↓dCallF_h, ↓dCallN_h, ↓hid_1, ↓dSeqOf, ↓dRange1, ↓dRange2, ↓dEnum, ↓dZip, ↓dForD, ↓forD, ↓dLcD, ↓dYes, ↓dAppend, ↓dPop, ↓dExtend, ↓dSetItem, ↓dTruO, ↓bInt, ↓bAdd, ↓bAddB, ↓dNeg, ↓bEq, ↓bNe, ↓bIs, ↓bIsNot, ↓bLt, ↓bLe, ↓bGt, ↓bGe, ↓bOrd, ↓dChain, ↓bIn, ↓bIx, ↓dIxO, ↓dLenO, ↓dNo, ↓dYesO, ↓dSlice, ↓SlD, ↓dIsi, ↓dIsi2, ↓cLen, ↓cAll, ↓cStr, ↓cInt, ↓cTuple, ↓dListOf, ↓dCat, ↓dJoin, ↓dFmt, ↓dJs, ↓dJoined, ↓dGetT, ↓dInT, ↓dRev1, ↓bRep, ↓q1_at, ↓q2_at, ↓q3_at, ↓popex, ↓atx0, ↓atx1, ↓atx2, ↓atx3, ↓reduceIte,
  wipeD, backD, isInt, cast_succ_ne, at0, at1, at2, at3, ex_some, cut1, eqvS, eqvI, shS, shI, flatD, popget, emp_app, down0, down1, down2, down3, List.dropLast_concat, List.all_cons, List.all_nil, Bool.and_true, decide_eq_true_eq, isTy, isNone, startD, startF, List.map_cons, List.map_nil, List.length_cons, List.length_nil, List.nil_append, List.cons_append, List.replicate, List.getElem?_cons_zero, List.getElem?_cons_succ, List.getElem?_nil, List.set_cons_zero, List.set_cons_succ, List.set_nil, Nat.zero_add, Nat.reduceAdd, Nat.reduceSub, Nat.reduceLT, Nat.reduceLeDiff, Int.reduceAdd, Int.reduceSub, Int.toNat_natCast, if_true, if_false, ite_true, ite_false, Bool.false_eq_true, Bool.not_true, Bool.not_false, Bool.true_eq_false, true_and, and_true, Nat.sub_self, Nat.sub_zero, Nat.reduceMul, List.replicate_zero, List.append_nil])
local macro_rules | `(tactic| walk_at "st T1l") => `(tactic| simp only [startF, startD, List.map_cons, List.map_nil, List.cons_append, List.nil_append, List.length_cons, List.length_nil, List.replicate, Nat.reduceAdd, Nat.reduceSub])

theorem num_tab2 {w : Str} {ks : List Str} (h : numTab w = some ks) (a : ∀ s ∈ ks, s = "name") : ks.length ≤ 2 ∧ w.length ≤ 2 := by
  unfold numTab at h
  repeat' split at h
  all_goals first | (rename_i e; subst e; cases h; first | exact ⟨by decide, by decide⟩ | exact absurd (a _ List.mem_cons_self) (by decide +kernel)) | cases h
theorem cond_tab2 {w : Str} {ks : List Str} (h : condTab w = some ks) (a : ∀ s ∈ ks, s = "name") : ks.length ≤ 2 ∧ w.length ≤ 2 := by
  unfold condTab at h
  repeat' split at h
  all_goals first | (rename_i e; subst e; cases h; first | exact ⟨by decide, by decide⟩ | exact absurd (a _ List.mem_cons_self) (by decide +kernel)) | cases h
theorem tab_nm2 {k w : Str} {ks : List Str} (h : tabOf k w = some ks) (a : ∀ s ∈ ks, s = "name") : ks.length ≤ 2 ∧ w.length ≤ 2 := by
  unfold tabOf at h
  split at h
  · exact num_tab2 h a
  · exact cond_tab2 h a
theorem chN {s : Str} (h : okName s = true) : chOk s := fun c hc => by
  unfold okName at h
  rw [Bool.and_eq_true] at h
  have := List.all_eq_true.mp h.2 c hc
  unfold okC at this
  rw [Bool.and_eq_true, decide_eq_true_eq, decide_eq_true_eq] at this
  omega
theorem ch_ofS (s : String) : (Str.ofString s).cps.toList.all (fun c => decide (c < 1114112)) = true → chOk (Str.ofString s) := fun h c hc => of_decide_eq_true (List.all_eq_true.mp h c hc)
theorem num_chW {w : Str} {ks : List Str} (h : numTab w = some ks) : chOk w := by
  unfold numTab at h
  repeat' split at h
  all_goals first | (rename_i e; subst e; exact ch_ofS _ (by decide +kernel)) | cases h
theorem cond_chW {w : Str} {ks : List Str} (h : condTab w = some ks) : chOk w := by
  unfold condTab at h
  repeat' split at h
  all_goals first | (rename_i e; subst e; exact ch_ofS _ (by decide +kernel)) | cases h
theorem tab_chW {k w : Str} {ks : List Str} (h : tabOf k w = some ks) : chOk w := by
  unfold tabOf at h
  split at h
  · exact num_chW h
  · exact cond_chW h
theorem pow200 {i : Int} (h : i.natAbs.log2 < 200) : i.natAbs ≤ 2 ^ 200 := by
  have := Nat.lt_log2_self (n := i.natAbs)
  have : 2 ^ (i.natAbs.log2 + 1) ≤ 2 ^ 200 := Nat.pow_le_pow_right (by decide) (by omega)
  omega
theorem names_gd : ∀ {ns : List Str}, (∀ n ∈ ns, okName n = true) → okVL (2 ^ 200) (ns.map .str) ∧ PyData.depthAll (ns.map .str) = 0 ∧ wtL (ns.map .str) ≤ 88 * ns.length
  | [], _ => ⟨trivial, rfl, Nat.le_refl _⟩
  | n :: ns, h => by
    obtain ⟨a, b, c⟩ := names_gd (ns := ns) fun m hm => h m (List.mem_cons_of_mem _ hm)
    have hn := h n List.mem_cons_self
    have l := name_len hn
    refine ⟨⟨chN hn, a⟩, ?_, ?_⟩
    · show max 0 (PyData.depthAll (ns.map .str)) = 0
      rw [b]; rfl
    · show 10 * n.length + 6 + 2 + wtL (ns.map .str) ≤ 88 * (ns.length + 1)
      omega
theorem enc_gd : ∀ {t : Tm} {k : Str}, wf k t → okV (2 ^ 200) (enc t) ∧ (enc t).depth ≤ hgt t + 1 ∧ T1.wt (enc t) ≤ 212 * siz t
  | .num i, k, h => ⟨pow200 h.2, by show 0 ≤ _; omega, by show 90 ≤ 212 * 1; decide⟩
  | .nam w ns, k, h => by
    obtain ⟨a, b, c⟩ := names_gd h.2
    have l := tab_word h.1
    have l2 := tab_nm2 h.1 fun s hs => by
      obtain ⟨_, _, e⟩ := List.mem_map.mp hs
      exact e.symm
    rw [List.length_map] at l2
    obtain ⟨l2, l3⟩ := l2
    refine ⟨⟨tab_chW h.1, a⟩, ?_, ?_⟩
    · show max 0 (PyData.depthAll (ns.map .str)) + 1 ≤ 0 + 1
      rw [b]; decide
    · show 6 + (10 * w.length + 6 + 2 + wtL (ns.map .str)) ≤ 212 * 1
      omega
  | .one w a, k, h => by
    obtain ⟨ka, hT, na, wa⟩ := h
    obtain ⟨a1, a2, a3⟩ := enc_gd wa
    have l := tab_word hT
    refine ⟨⟨tab_chW hT, a1, trivial⟩, ?_, ?_⟩
    · show max 0 (max (enc a).depth 0) + 1 ≤ hgt a + 1 + 1
      omega
    · show 6 + (10 * w.length + 6 + 2 + (T1.wt (enc a) + 2 + 0)) ≤ 212 * (siz a + 1)
      omega
  | .two w a b, k, h => by
    obtain ⟨ka, kb, hT, na, nb, wa, wb⟩ := h
    obtain ⟨a1, a2, a3⟩ := enc_gd wa
    obtain ⟨b1, b2, b3⟩ := enc_gd wb
    have l := tab_word hT
    refine ⟨⟨tab_chW hT, a1, b1, trivial⟩, ?_, ?_⟩
    · show max 0 (max (enc a).depth (max (enc b).depth 0)) + 1 ≤ max (hgt a) (hgt b) + 1 + 1
      omega
    · show 6 + (10 * w.length + 6 + 2 + (T1.wt (enc a) + 2 + (T1.wt (enc b) + 2 + 0))) ≤ 212 * (siz a + siz b + 1)
      omega
  | .tri w a b c, k, h => by
    obtain ⟨ka, kb, kc, hT, na, nb, nc, wa, wb, wc⟩ := h
    obtain ⟨a1, a2, a3⟩ := enc_gd wa
    obtain ⟨b1, b2, b3⟩ := enc_gd wb
    obtain ⟨c1, c2, c3⟩ := enc_gd wc
    have l := tab_word hT
    refine ⟨⟨tab_chW hT, a1, b1, c1, trivial⟩, ?_, ?_⟩
    · show max 0 (max (enc a).depth (max (enc b).depth (max (enc c).depth 0))) + 1 ≤ max (hgt a) (max (hgt b) (hgt c)) + 1 + 1
      omega
    · show 6 + (10 * w.length + 6 + 2 + (T1.wt (enc a) + 2 + (T1.wt (enc b) + 2 + (T1.wt (enc c) + 2 + 0)))) ≤ 212 * (siz a + siz b + siz c + 1)
      omega
def menu14 : List PyData := [.none, .bool true, .int 0, .int (-1), .str "", .str "a", .str "of", .str "my", .str "=", .tuple [], .list [], .tuple [.str "my", .str "x"], .tuple [.str "=", .int 0, .int 0], .int 7]
theorem menu_ok : Mn menu14 := ⟨by decide, by decide, fun z hz => by
  have : (menu14.all fun z => okB 10 z && decide (z.depth ≤ 1) && decide (T1.wt z ≤ 1000)) = true := by decide +kernel
  have := List.all_eq_true.mp this z hz
  rw [Bool.and_eq_true, Bool.and_eq_true] at this
  exact ⟨okB_ok this.1.1, of_decide_eq_true this.1.2, of_decide_eq_true this.2⟩⟩
theorem ch_gd {e : Nat} {d d' : PyData} (c : Ch e d d') {n w : Nat} (hn : d.depth ≤ n) (hw : T1.wt d ≤ w) : okV (e + 1) d' ∧ d'.depth ≤ n + 2 ∧ T1.wt d' ≤ 2 * w + 2000 := ⟨c.ok, by have := c.dp; omega, by have := c.wt; omega⟩
theorem numD_no {d : PyData} (h : isInt d = false) : numD d = false := by cases d <;> first | rfl | cases h
theorem int_or (d : PyData) : (∃ i, d = .int i) ∨ isInt d = false := by cases d <;> first | exact .inl ⟨_, rfl⟩ | exact .inr rfl
theorem wr6 (a b c d e f : Bool) : Wr (.list [.bool a, .bool b, .bool c, .bool d, .bool e, .bool f]) :=
  Gd.wr (e := 0) (n := 1) (c := 60) ⟨⟨trivial, trivial, trivial, trivial, trivial, trivial, trivial⟩, Nat.le_refl _, by show 54 ≤ 60; decide⟩ (by decide) (by decide) (by decide)
theorem nm2a : nmOk ["ann", "bob"] := ⟨by decide, by decide, by decide +kernel⟩
theorem nm2b : nmOk ["pay", "x"] := ⟨by decide, by decide, by decide +kernel⟩
theorem S_law : FnScope ["_law_script", "_law_reader_here", "_law_menu", "_law_some", "_law_turn", "_law_crew", "_law_slots", "_law_item", "_law_once", "_law_saved", "_law_want", "_law_got"] ["_law_script"] (defScope (top 37)) := ⟨rfl, rfl, rfl, by decide +kernel, rfl, by decide +kernel, by decide +kernel⟩
abbrev scr (ns : List Int) : Option Ent := some (Ent.dat (PyData.list (ns.map .int)))
def I1 (ns : List Int) (i : Nat) (Γ : DEnv) : Prop := ∃ (fs : List PyData) (n : Int) (es : List PyData) (y4 y5 y6 y7 y8 : Option PyData), Γ = [scr ns, some (Ent.own fs), some (Ent.dat (.list menu14)), some (Ent.dat (.list es)), odat y4, odat y5, odat y6, odat y7, odat y8, none, none, none] ∧
  RD fs n ∧ 0 ≤ n ∧ n ≤ 1000 * (i : Int) ∧ (∀ z ∈ es, Ok1 z) ∧ es.length ≤ 2000 + 3 * i
def I2 (ns : List Int) (fs es : List PyData) (y4 y5 y6 y8 : Option PyData) (i : Nat) (Γ : DEnv) : Prop := ∃ (y7 y9 ya yb : Option PyData), Γ = [scr ns, some (Ent.own fs), some (Ent.dat (.list menu14)), some (Ent.dat (.list es)), odat y4, odat y5, odat y6, odat y7, odat y8, odat y9, odat ya, odat yb]
section
variable {P : Program} {w : World} {K : PySem.W.Frag} {mg : Str → Option Value} {k : Nat} {f : Addr} {fd : FuncData}
abbrev exPs : List Str := ["_law_reader_here", "_law_crew", "_law_slots", "_law_inside", "_law_deep"]
theorem body_law (B : B0 mg) (hk : ∀ base : Heap,
    Has P w K mg base "_law_reader" k ["_law_script"] (spN K rdN) ∧ Has P w K mg base "_law_plain_values" k [] (spN K gdN) ∧ Has P w K mg base "_law_expressions" k [] (spN K gdN) ∧
    Has P w K mg base "_law_number" k exPs (spF K (exS "number" 3)) ∧ Has P w K mg base "_law_condition" k exPs (spF K (exS "condition" 3)) ∧ Has P w K mg base "_law_changed" k ["_law_reader_here", "_law_thing", "_law_menu"] (spF K (chS 30)) ∧
    Has P w K mg base "_law_is_integer" k ["_law_thing"] (spP K (q1 (fun _ => True) fun d => .bool (isInt d))) ∧ Has P w K mg base "_law_is_name" k ["_law_thing"] (spP K (q1 Ok1 fun d => .bool (isName d))) ∧ Has P w K mg base "_law_rises" k ["_law_thing"] (spP K (q1 Ok1 fun d => .bool (riseD d))) ∧
    Has P w K mg base "_law_wrong" k ["_law_crew", "_law_slots", "_law_goal", "_law_item", "_law_inside", "_law_path_now"] (spP K (wrS 60)) ∧
    Has P w K mg base "is_integer" k ["thing"] (spP K (q1 (fun _ => True) fun d => .bool (isInt d))) ∧ Has P w K mg base "is_number" k ["thing"] (spP K (q1 (fun _ => True) fun d => .bool (numD d))) ∧ Has P w K mg base "is_name" k ["thing"] (spP K nmT) ∧
    Has P w K mg base "is_names" k ["thing"] (spP K (q1 Ok1 fun d => .bool (riseD d))) ∧ Has P w K mg base "is_number_expression" k ["thing"] (spP K (q1 (fun d => T1.wt d ≤ 100000) fun d => .bool (fw d "number" []).isNone)) ∧
    Has P w K mg base "is_condition" k ["thing"] (spP K (q1 (fun d => T1.wt d ≤ 100000) fun d => .bool (fw d "condition" []).isNone))) :
    LawBody P w K mg (top 37) "law" "_law_script" ["_law_script", "_law_reader_here", "_law_menu", "_law_some", "_law_turn", "_law_crew", "_law_slots", "_law_item", "_law_once", "_law_saved", "_law_want", "_law_got"] k f := by
  refine ⟨S_law, fun base cdv s G R hr => ?_⟩
  obtain ⟨h__law_reader, h__law_plain_values, h__law_expressions, h__law_number, h__law_condition, h__law_changed, h__law_is_integer, h__law_is_name, h__law_rises, h__law_wrong, h_is_integer, h_is_number, h_is_name, h_is_names, h_is_number_expression, h_is_condition⟩ := hk base
  refine ⟨_, (pdss_cons (pds_setO (i := 1) S_law.nd (pdl_callH rdN_mono h__law_reader hr (pda_cons (pd_var 0) pda_nil))) (pdss_cons (pds_set (i := 2) S_law.nd (pde_frz (pdl_lst (pda_cons pd_non (pda_cons pd_bl (pda_cons pd_int (pda_cons (pde_neg pd_int) (pda_cons pd_str (pda_cons pd_str (pda_cons pd_str (pda_cons pd_str (pda_cons pd_str (pda_cons (pde_tup pda_nil) (pda_cons (pde_frz (pdl_lst pda_nil)) (pda_cons (pde_tup (pda_cons pd_str (pda_cons pd_str pda_nil))) (pda_cons (pde_tup (pda_cons pd_str (pda_cons pd_int (pda_cons pd_int pda_nil)))) (pda_cons pd_int pda_nil))))))))))))))))) (pdss_cons (pds_set (i := 3) S_law.nd (pde_frz (pdl_cat (pde_frz (pdl_callH0 gdN_mono h__law_plain_values hr)) (pde_frz (pdl_callH0 gdN_mono h__law_expressions hr))))) (pdss_cons (pds_forD PassesOwn.never rfl (pdi_range1 rfl B.range (pda_cons pd_int pda_nil)) (pdg_name 4 S_law.nd) (pdss_cons (pds_asg (pde_tup (pda_cons (pde_tup (pda_cons pd_str (pda_cons pd_str pda_nil))) (pda_cons (pde_tup (pda_cons pd_str (pda_cons pd_str pda_nil))) pda_nil))) (pdg_tup (n := 2) rfl (pdgs_cons (pdg_name 5 S_law.nd) (pdgs_cons (pdg_name 6 S_law.nd) pdgs_nil)))) (pdss_cons (pds_set (i := 7) S_law.nd (pde_callHF 1 exS_mono h__law_number hr (pda_cons (pd_var 5) (pda_cons (pd_var 6) (pda_cons pd_bl (pda_cons pd_int pda_nil)))))) (pdss_cons (pds_if (pdt_eq hr.units (pde_mod (pde_int1 (pd_var 4) B.int) pd_int) pd_int) (pdss_one (pds_set (i := 7) S_law.nd (pde_callHF 1 exS_mono h__law_condition hr (pda_cons (pd_var 5) (pda_cons (pd_var 6) (pda_cons pd_bl (pda_cons pd_int pda_nil))))))) pdss_nil) (pdss_cons (pds_set (i := 8) S_law.nd (pde_callHF 1 chS_mono h__law_changed hr (pda_cons (pd_var 7) (pda_cons (pd_var 2) pda_nil)))) (pdss_one (pds_set (i := 3) S_law.nd (pde_frz (pdl_cat (pd_var 3) (pde_frz (pdl_lst (pda_cons (pd_var 7) (pda_cons (pd_var 8) (pda_cons (pde_callHF 1 chS_mono h__law_changed hr (pda_cons (pd_var 8) (pda_cons (pd_var 2) pda_nil))) pda_nil)))))))))))))) (pdss_cons (pds_forD PassesOwn.never rfl (pdi_list (pd_var 3)) (pdg_name 7 S_law.nd) (pdss_cons (pds_set (i := 9) S_law.nd (pde_repr rfl hr.units (pd_var 7) B.repr)) (pdss_cons (pds_setO (i := 10) S_law.nd (pdl_lst (pda_cons (pde_callH q1_mono h__law_is_integer hr (pda_cons (pd_var 7) pda_nil)) (pda_cons (pde_and (pde_callH q1_mono h__law_is_integer hr (pda_cons (pd_var 7) pda_nil)) (pde_one (pde_ge (pd_var 7) pd_int))) (pda_cons (pde_callH q1_mono h__law_is_name hr (pda_cons (pd_var 7) pda_nil)) (pda_cons (pde_callH q1_mono h__law_rises hr (pda_cons (pd_var 7) pda_nil)) pda_nil)))))) (pdss_cons (pds_append 10 (pde_is (pde_callH wrS_mono h__law_wrong hr (pda_cons (pde_tup pda_nil) (pda_cons (pde_tup pda_nil) (pda_cons pd_str (pda_cons (pd_var 7) (pda_cons pd_bl (pda_cons (pde_tup pda_nil) pda_nil))))))) pd_non)) (pdss_cons (pds_append 10 (pde_is (pde_callH wrS_mono h__law_wrong hr (pda_cons (pde_tup pda_nil) (pda_cons (pde_tup pda_nil) (pda_cons pd_str (pda_cons (pd_var 7) (pda_cons pd_bl (pda_cons (pde_tup pda_nil) pda_nil))))))) pd_non)) (pdss_cons (pds_set (i := 11) S_law.nd (pde_frz (pdl_lst (pda_cons (pde_callH q1_mono h_is_integer hr (pda_cons (pd_var 7) pda_nil)) (pda_cons (pde_callH q1_mono h_is_number hr (pda_cons (pd_var 7) pda_nil)) (pda_cons (pde_callH q1_mono h_is_name hr (pda_cons (pd_var 7) pda_nil)) (pda_cons (pde_callH q1_mono h_is_names hr (pda_cons (pd_var 7) pda_nil)) (pda_cons (pde_callH q1_mono h_is_number_expression hr (pda_cons (pd_var 7) pda_nil)) pda_nil)))))))) (pdss_one (pds_if (pdw_or (pdt_neS (pde_repr rfl hr.units (pde_frz (pdl_cat (pd_var 11) (pde_frz (pdl_lst (pda_cons (pde_callH q1_mono h_is_condition hr (pda_cons (pd_var 7) pda_nil)) pda_nil))))) B.repr) (pde_repr rfl hr.units (pd_var 10) B.repr)) (pdw_or1 (pdt_neS (pde_repr rfl hr.units (pd_var 7) B.repr) (pd_var 9)))).t (pdss_one (pds_ret pd_bl)) pdss_nil)))))))) (pdss_one (pds_ret pd_bl))))))), fun ns few => ?_⟩
  walk_at "st T1l"
  (simp (config := {maxSteps := 3000000}) only [↓cRepr_at, ↓bNeS, ↓bEqS, ↓dSeq, ↓dN_at, ↓dIfS, ↓dRet, ↓dRetN, ↓dAsg, ↓dAsgO, ↓dSet_eq, ↓sc_n, ↓sc_d, ↓sc_o, ↓sc_y, ↓dDrop, ↓dAsgG, ↓dPar2, ↓dPar3, ↓dPopAt, ↓dInsert, ↓dRevL, ↓dRevT, ↓bRepS, ↓dgTup, ↓dgCons, ↓dgName, ↓dgNil, ↓dNext, ↓dBreak, ↓dCont, ↓dVar, ↓dC, ↓dOp, ↓dTest, ↓dAnd, ↓dOr, ↓dNot, ↓dAndV, ↓dOrV, ↓dNotV, ↓dIf, ↓dIfL, ↓dNil, ↓dCons, ↓dTup, ↓dLst, ↓dFrz, ↓dCall, ↓dCallP_h, ↓dCallF_h, ↓dCallN_h, ↓hid_1, ↓dSeqOf, ↓dRange1, ↓dRange2, ↓dEnum, ↓dZip, ↓dForD, ↓forD, ↓dLcD, ↓dYes, ↓dAppend, ↓dPop, ↓dExtend, ↓dSetItem, ↓dTruO, ↓bInt, ↓bAdd, ↓bAddB, ↓dNeg, ↓bEq, ↓bNe, ↓bIs, ↓bIsNot, ↓bLt, ↓bLe, ↓bGt, ↓bGe, ↓bOrd, ↓dChain, ↓bIn, ↓bIx, ↓dIxO, ↓dLenO, ↓dNo, ↓dYesO, ↓dSlice, ↓SlD, ↓dIsi, ↓dIsi2, ↓cLen, ↓cAll, ↓cStr, ↓cInt, ↓cTuple, ↓dListOf, ↓dCat, ↓dJoin, ↓dFmt, ↓dJs, ↓dJoined, ↓dGetT, ↓dInT, ↓dRev1, ↓bRep, ↓q1_at, ↓q2_at, ↓q3_at, ↓popex, ↓atx0, ↓atx1, ↓atx2, ↓atx3, ↓reduceIte,
  wipeD, backD, cast_succ_ne, at0, at1, at2, at3, ex_some, cut1, eqvS, eqvI, shS, shI, flatD, popget, emp_app, down0, down1, down2, down3, List.dropLast_concat, List.all_cons, List.all_nil, Bool.and_true, decide_eq_true_eq, isTy, startD, startF, List.map_cons, List.map_nil, List.length_cons, List.length_nil, List.nil_append, List.cons_append, List.replicate, List.getElem?_cons_zero, List.getElem?_cons_succ, List.getElem?_nil, List.set_cons_zero, List.set_cons_succ, List.set_nil, Nat.zero_add, Nat.reduceAdd, Nat.reduceSub, Nat.reduceLT, Nat.reduceLeDiff, Int.reduceAdd, Int.reduceSub, Int.toNat_natCast, if_true, if_false, ite_true, ite_false, Bool.false_eq_true, Bool.not_true, Bool.not_false, Bool.true_eq_false, true_and, and_true, Nat.sub_self, Nat.sub_zero, Nat.reduceMul, List.replicate_zero, List.append_nil])
  refine ⟨ns, rfl, few, fun fs rd => ?_⟩
  (simp (config := {maxSteps := 3000000}) only [↓cRepr_at, ↓bNeS, ↓bEqS, ↓dSeq, ↓dN_at, ↓dIfS, ↓dRet, ↓dRetN, ↓dAsg, ↓dAsgO, ↓dSet_eq, ↓sc_n, ↓sc_d, ↓sc_o, ↓sc_y, ↓dDrop, ↓dAsgG, ↓dPar2, ↓dPar3, ↓dPopAt, ↓dInsert, ↓dRevL, ↓dRevT, ↓bRepS, ↓dgTup, ↓dgCons, ↓dgName, ↓dgNil, ↓dNext, ↓dBreak, ↓dCont, ↓dVar, ↓dC, ↓dOp, ↓dTest, ↓dAnd, ↓dOr, ↓dNot, ↓dAndV, ↓dOrV, ↓dNotV, ↓dIf, ↓dIfL, ↓dNil, ↓dCons, ↓dTup, ↓dLst, ↓dFrz, ↓dCall, ↓dCallP_h, ↓dCallF_h, ↓dCallN_h, ↓hid_1, ↓dSeqOf, ↓dRange1, ↓dRange2, ↓dEnum, ↓dZip, ↓dForD, ↓forD, ↓dLcD, ↓dYes, ↓dAppend, ↓dPop, ↓dExtend, ↓dSetItem, ↓dTruO, ↓bInt, ↓bAdd, ↓bAddB, ↓dNeg, ↓bEq, ↓bNe, ↓bIs, ↓bIsNot, ↓bLt, ↓bLe, ↓bGt, ↓bGe, ↓bOrd, ↓dChain, ↓bIn, ↓bIx, ↓dIxO, ↓dLenO, ↓dNo, ↓dYesO, ↓dSlice, ↓SlD, ↓dIsi, ↓dIsi2, ↓cLen, ↓cAll, ↓cStr, ↓cInt, ↓cTuple, ↓dListOf, ↓dCat, ↓dJoin, ↓dFmt, ↓dJs, ↓dJoined, ↓dGetT, ↓dInT, ↓dRev1, ↓bRep, ↓q1_at, ↓q2_at, ↓q3_at, ↓popex, ↓atx0, ↓atx1, ↓atx2, ↓atx3, ↓reduceIte,
  wipeD, backD, cast_succ_ne, at0, at1, at2, at3, ex_some, cut1, eqvS, eqvI, shS, shI, flatD, popget, emp_app, down0, down1, down2, down3, List.dropLast_concat, List.all_cons, List.all_nil, Bool.and_true, decide_eq_true_eq, isTy, startD, startF, List.map_cons, List.map_nil, List.length_cons, List.length_nil, List.nil_append, List.cons_append, List.replicate, List.getElem?_cons_zero, List.getElem?_cons_succ, List.getElem?_nil, List.set_cons_zero, List.set_cons_succ, List.set_nil, Nat.zero_add, Nat.reduceAdd, Nat.reduceSub, Nat.reduceLT, Nat.reduceLeDiff, Int.reduceAdd, Int.reduceSub, Int.toNat_natCast, if_true, if_false, ite_true, ite_false, Bool.false_eq_true, Bool.not_true, Bool.not_false, Bool.true_eq_false, true_and, and_true, Nat.sub_self, Nat.sub_zero, Nat.reduceMul, List.replicate_zero, List.append_nil])
  refine ⟨rfl, fun es1 l1 o1 => ?_⟩
  (simp (config := {maxSteps := 3000000}) only [↓cRepr_at, ↓bNeS, ↓bEqS, ↓dSeq, ↓dN_at, ↓dIfS, ↓dRet, ↓dRetN, ↓dAsg, ↓dAsgO, ↓dSet_eq, ↓sc_n, ↓sc_d, ↓sc_o, ↓sc_y, ↓dDrop, ↓dAsgG, ↓dPar2, ↓dPar3, ↓dPopAt, ↓dInsert, ↓dRevL, ↓dRevT, ↓bRepS, ↓dgTup, ↓dgCons, ↓dgName, ↓dgNil, ↓dNext, ↓dBreak, ↓dCont, ↓dVar, ↓dC, ↓dOp, ↓dTest, ↓dAnd, ↓dOr, ↓dNot, ↓dAndV, ↓dOrV, ↓dNotV, ↓dIf, ↓dIfL, ↓dNil, ↓dCons, ↓dTup, ↓dLst, ↓dFrz, ↓dCall, ↓dCallP_h, ↓dCallF_h, ↓dCallN_h, ↓hid_1, ↓dSeqOf, ↓dRange1, ↓dRange2, ↓dEnum, ↓dZip, ↓dForD, ↓forD, ↓dLcD, ↓dYes, ↓dAppend, ↓dPop, ↓dExtend, ↓dSetItem, ↓dTruO, ↓bInt, ↓bAdd, ↓bAddB, ↓dNeg, ↓bEq, ↓bNe, ↓bIs, ↓bIsNot, ↓bLt, ↓bLe, ↓bGt, ↓bGe, ↓bOrd, ↓dChain, ↓bIn, ↓bIx, ↓dIxO, ↓dLenO, ↓dNo, ↓dYesO, ↓dSlice, ↓SlD, ↓dIsi, ↓dIsi2, ↓cLen, ↓cAll, ↓cStr, ↓cInt, ↓cTuple, ↓dListOf, ↓dCat, ↓dJoin, ↓dFmt, ↓dJs, ↓dJoined, ↓dGetT, ↓dInT, ↓dRev1, ↓bRep, ↓q1_at, ↓q2_at, ↓q3_at, ↓popex, ↓atx0, ↓atx1, ↓atx2, ↓atx3, ↓reduceIte,
  wipeD, backD, cast_succ_ne, at0, at1, at2, at3, ex_some, cut1, eqvS, eqvI, shS, shI, flatD, popget, emp_app, down0, down1, down2, down3, List.dropLast_concat, List.all_cons, List.all_nil, Bool.and_true, decide_eq_true_eq, isTy, startD, startF, List.map_cons, List.map_nil, List.length_cons, List.length_nil, List.nil_append, List.cons_append, List.replicate, List.getElem?_cons_zero, List.getElem?_cons_succ, List.getElem?_nil, List.set_cons_zero, List.set_cons_succ, List.set_nil, Nat.zero_add, Nat.reduceAdd, Nat.reduceSub, Nat.reduceLT, Nat.reduceLeDiff, Int.reduceAdd, Int.reduceSub, Int.toNat_natCast, if_true, if_false, ite_true, ite_false, Bool.false_eq_true, Bool.not_true, Bool.not_false, Bool.true_eq_false, true_and, and_true, Nat.sub_self, Nat.sub_zero, Nat.reduceMul, List.replicate_zero, List.append_nil])
  refine ⟨rfl, fun es2 l2 o2 => ?_⟩
  (simp (config := {maxSteps := 3000000}) only [↓cRepr_at, ↓bNeS, ↓bEqS, ↓dSeq, ↓dN_at, ↓dIfS, ↓dRet, ↓dRetN, ↓dAsg, ↓dAsgO, ↓dSet_eq, ↓sc_n, ↓sc_d, ↓sc_o, ↓sc_y, ↓dDrop, ↓dAsgG, ↓dPar2, ↓dPar3, ↓dPopAt, ↓dInsert, ↓dRevL, ↓dRevT, ↓bRepS, ↓dgTup, ↓dgCons, ↓dgName, ↓dgNil, ↓dNext, ↓dBreak, ↓dCont, ↓dVar, ↓dC, ↓dOp, ↓dTest, ↓dAnd, ↓dOr, ↓dNot, ↓dAndV, ↓dOrV, ↓dNotV, ↓dIf, ↓dIfL, ↓dNil, ↓dCons, ↓dTup, ↓dLst, ↓dFrz, ↓dCall, ↓dCallP_h, ↓dCallF_h, ↓dCallN_h, ↓hid_1, ↓dSeqOf, ↓dRange1, ↓dRange2, ↓dEnum, ↓dZip, ↓dForD, ↓forD, ↓dLcD, ↓dYes, ↓dAppend, ↓dPop, ↓dExtend, ↓dSetItem, ↓dTruO, ↓bInt, ↓bAdd, ↓bAddB, ↓dNeg, ↓bEq, ↓bNe, ↓bIs, ↓bIsNot, ↓bLt, ↓bLe, ↓bGt, ↓bGe, ↓bOrd, ↓dChain, ↓bIn, ↓bIx, ↓dIxO, ↓dLenO, ↓dNo, ↓dYesO, ↓dSlice, ↓SlD, ↓dIsi, ↓dIsi2, ↓cLen, ↓cAll, ↓cStr, ↓cInt, ↓cTuple, ↓dListOf, ↓dCat, ↓dJoin, ↓dFmt, ↓dJs, ↓dJoined, ↓dGetT, ↓dInT, ↓dRev1, ↓bRep, ↓q1_at, ↓q2_at, ↓q3_at, ↓popex, ↓atx0, ↓atx1, ↓atx2, ↓atx3, ↓reduceIte,
  wipeD, backD, cast_succ_ne, at0, at1, at2, at3, ex_some, cut1, eqvS, eqvI, shS, shI, flatD, popget, emp_app, down0, down1, down2, down3, List.dropLast_concat, List.all_cons, List.all_nil, Bool.and_true, decide_eq_true_eq, isTy, startD, startF, List.map_cons, List.map_nil, List.length_cons, List.length_nil, List.nil_append, List.cons_append, List.replicate, List.getElem?_cons_zero, List.getElem?_cons_succ, List.getElem?_nil, List.set_cons_zero, List.set_cons_succ, List.set_nil, Nat.zero_add, Nat.reduceAdd, Nat.reduceSub, Nat.reduceLT, Nat.reduceLeDiff, Int.reduceAdd, Int.reduceSub, Int.toNat_natCast, if_true, if_false, ite_true, ite_false, Bool.false_eq_true, Bool.not_true, Bool.not_false, Bool.true_eq_false, true_and, and_true, Nat.sub_self, Nat.sub_zero, Nat.reduceMul, List.replicate_zero, List.append_nil])
  refine ⟨by omega, by decide, by decide, ?_⟩
  refine forD_inv (I1 ns) _ 0 _ ?_ ⟨fs, 0, es1 ++ es2, none, none, none, none, none, rfl, rd, by decide, by decide, all_app o1 o2, by rw [List.length_append]; omega⟩ ?_
  · rintro j d e Γ N ⟨fs, n, es, y4, y5, y6, y7, y8, rfl, rd, n0, n1, ho, hl⟩ next
    obtain ⟨hj, rfl⟩ := upto_at e
    have hj : j < 14 := hj
    (simp (config := {maxSteps := 3000000}) only [↓cRepr_at, ↓bNeS, ↓bEqS, ↓dSeq, ↓dN_at, ↓dIfS, ↓dRet, ↓dRetN, ↓dAsg, ↓dAsgO, ↓dSet_eq, ↓sc_n, ↓sc_d, ↓sc_o, ↓sc_y, ↓dDrop, ↓dAsgG, ↓dPar2, ↓dPar3, ↓dPopAt, ↓dInsert, ↓dRevL, ↓dRevT, ↓bRepS, ↓dgTup, ↓dgCons, ↓dgName, ↓dgNil, ↓dNext, ↓dBreak, ↓dCont, ↓dVar, ↓dC, ↓dOp, ↓dTest, ↓dAnd, ↓dOr, ↓dNot, ↓dAndV, ↓dOrV, ↓dNotV, ↓dIf, ↓dIfL, ↓dNil, ↓dCons, ↓dTup, ↓dLst, ↓dFrz, ↓dCall, ↓dCallP_h, ↓dCallF_h, ↓dCallN_h, ↓hid_1, ↓dSeqOf, ↓dRange1, ↓dRange2, ↓dEnum, ↓dZip, ↓dForD, ↓forD, ↓dLcD, ↓dYes, ↓dAppend, ↓dPop, ↓dExtend, ↓dSetItem, ↓dTruO, ↓bInt, ↓bAdd, ↓bAddB, ↓dNeg, ↓bEq, ↓bNe, ↓bIs, ↓bIsNot, ↓bLt, ↓bLe, ↓bGt, ↓bGe, ↓bOrd, ↓dChain, ↓bIn, ↓bIx, ↓dIxO, ↓dLenO, ↓dNo, ↓dYesO, ↓dSlice, ↓SlD, ↓dIsi, ↓dIsi2, ↓cLen, ↓cAll, ↓cStr, ↓cInt, ↓cTuple, ↓dListOf, ↓dCat, ↓dJoin, ↓dFmt, ↓dJs, ↓dJoined, ↓dGetT, ↓dInT, ↓dRev1, ↓bRep, ↓q1_at, ↓q2_at, ↓q3_at, ↓popex, ↓atx0, ↓atx1, ↓atx2, ↓atx3, ↓reduceIte,
  wipeD, backD, cast_succ_ne, at0, at1, at2, at3, ex_some, cut1, eqvS, eqvI, shS, shI, flatD, popget, emp_app, down0, down1, down2, down3, List.dropLast_concat, List.all_cons, List.all_nil, Bool.and_true, decide_eq_true_eq, isTy, startD, startF, List.map_cons, List.map_nil, List.length_cons, List.length_nil, List.nil_append, List.cons_append, List.replicate, List.getElem?_cons_zero, List.getElem?_cons_succ, List.getElem?_nil, List.set_cons_zero, List.set_cons_succ, List.set_nil, Nat.zero_add, Nat.reduceAdd, Nat.reduceSub, Nat.reduceLT, Nat.reduceLeDiff, Int.reduceAdd, Int.reduceSub, Int.toNat_natCast, if_true, if_false, ite_true, ite_false, Bool.false_eq_true, Bool.not_true, Bool.not_false, Bool.true_eq_false, true_and, and_true, Nat.sub_self, Nat.sub_zero, Nat.reduceMul, List.replicate_zero, List.append_nil])
    refine ⟨["ann", "bob"], ["pay", "x"], true, 2, n, rfl, by decide, nm2a, nm2b, rd, n0, by show n + ((90 : Nat) : Int) < 1099511627776; omega, fun t fs1 m1 rd1 a1 b1 wt1 st gt => ?_⟩
    have b1 : m1 ≤ n + ((90 : Nat) : Int) := b1
    have st : siz t ≤ 90 := st
    have gt : hgt t ≤ 3 := gt
    (simp (config := {maxSteps := 3000000}) only [↓cRepr_at, ↓bNeS, ↓bEqS, ↓dSeq, ↓dN_at, ↓dIfS, ↓dRet, ↓dRetN, ↓dAsg, ↓dAsgO, ↓dSet_eq, ↓sc_n, ↓sc_d, ↓sc_o, ↓sc_y, ↓dDrop, ↓dAsgG, ↓dPar2, ↓dPar3, ↓dPopAt, ↓dInsert, ↓dRevL, ↓dRevT, ↓bRepS, ↓dgTup, ↓dgCons, ↓dgName, ↓dgNil, ↓dNext, ↓dBreak, ↓dCont, ↓dVar, ↓dC, ↓dOp, ↓dTest, ↓dAnd, ↓dOr, ↓dNot, ↓dAndV, ↓dOrV, ↓dNotV, ↓dIf, ↓dIfL, ↓dNil, ↓dCons, ↓dTup, ↓dLst, ↓dFrz, ↓dCall, ↓dCallP_h, ↓dCallF_h, ↓dCallN_h, ↓hid_1, ↓dSeqOf, ↓dRange1, ↓dRange2, ↓dEnum, ↓dZip, ↓dForD, ↓forD, ↓dLcD, ↓dYes, ↓dAppend, ↓dPop, ↓dExtend, ↓dSetItem, ↓dTruO, ↓bInt, ↓bAdd, ↓bAddB, ↓dNeg, ↓bEq, ↓bNe, ↓bIs, ↓bIsNot, ↓bLt, ↓bLe, ↓bGt, ↓bGe, ↓bOrd, ↓dChain, ↓bIn, ↓bIx, ↓dIxO, ↓dLenO, ↓dNo, ↓dYesO, ↓dSlice, ↓SlD, ↓dIsi, ↓dIsi2, ↓cLen, ↓cAll, ↓cStr, ↓cInt, ↓cTuple, ↓dListOf, ↓dCat, ↓dJoin, ↓dFmt, ↓dJs, ↓dJoined, ↓dGetT, ↓dInT, ↓dRev1, ↓bRep, ↓q1_at, ↓q2_at, ↓q3_at, ↓popex, ↓atx0, ↓atx1, ↓atx2, ↓atx3, ↓reduceIte,
  wipeD, backD, cast_succ_ne, at0, at1, at2, at3, ex_some, cut1, eqvS, eqvI, shS, shI, flatD, popget, emp_app, down0, down1, down2, down3, List.dropLast_concat, List.all_cons, List.all_nil, Bool.and_true, decide_eq_true_eq, isTy, startD, startF, List.map_cons, List.map_nil, List.length_cons, List.length_nil, List.nil_append, List.cons_append, List.replicate, List.getElem?_cons_zero, List.getElem?_cons_succ, List.getElem?_nil, List.set_cons_zero, List.set_cons_succ, List.set_nil, Nat.zero_add, Nat.reduceAdd, Nat.reduceSub, Nat.reduceLT, Nat.reduceLeDiff, Int.reduceAdd, Int.reduceSub, Int.toNat_natCast, if_true, if_false, ite_true, ite_false, Bool.false_eq_true, Bool.not_true, Bool.not_false, Bool.true_eq_false, true_and, and_true, Nat.sub_self, Nat.sub_zero, Nat.reduceMul, List.replicate_zero, List.append_nil])
    refine ⟨by decide, ?_⟩
    split
    · refine ⟨["ann", "bob"], ["pay", "x"], true, 2, m1, rfl, by decide, nm2a, nm2b, rd1, by omega, by show m1 + ((90 : Nat) : Int) < 1099511627776; omega, fun t2 fs2 m2 rd2 a2 b2 wt2 st2 gt2 => ?_⟩
      have b2 : m2 ≤ m1 + ((90 : Nat) : Int) := b2
      have st2 : siz t2 ≤ 90 := st2
      have gt2 : hgt t2 ≤ 3 := gt2
      (simp (config := {maxSteps := 3000000}) only [↓cRepr_at, ↓bNeS, ↓bEqS, ↓dSeq, ↓dN_at, ↓dIfS, ↓dRet, ↓dRetN, ↓dAsg, ↓dAsgO, ↓dSet_eq, ↓sc_n, ↓sc_d, ↓sc_o, ↓sc_y, ↓dDrop, ↓dAsgG, ↓dPar2, ↓dPar3, ↓dPopAt, ↓dInsert, ↓dRevL, ↓dRevT, ↓bRepS, ↓dgTup, ↓dgCons, ↓dgName, ↓dgNil, ↓dNext, ↓dBreak, ↓dCont, ↓dVar, ↓dC, ↓dOp, ↓dTest, ↓dAnd, ↓dOr, ↓dNot, ↓dAndV, ↓dOrV, ↓dNotV, ↓dIf, ↓dIfL, ↓dNil, ↓dCons, ↓dTup, ↓dLst, ↓dFrz, ↓dCall, ↓dCallP_h, ↓dCallF_h, ↓dCallN_h, ↓hid_1, ↓dSeqOf, ↓dRange1, ↓dRange2, ↓dEnum, ↓dZip, ↓dForD, ↓forD, ↓dLcD, ↓dYes, ↓dAppend, ↓dPop, ↓dExtend, ↓dSetItem, ↓dTruO, ↓bInt, ↓bAdd, ↓bAddB, ↓dNeg, ↓bEq, ↓bNe, ↓bIs, ↓bIsNot, ↓bLt, ↓bLe, ↓bGt, ↓bGe, ↓bOrd, ↓dChain, ↓bIn, ↓bIx, ↓dIxO, ↓dLenO, ↓dNo, ↓dYesO, ↓dSlice, ↓SlD, ↓dIsi, ↓dIsi2, ↓cLen, ↓cAll, ↓cStr, ↓cInt, ↓cTuple, ↓dListOf, ↓dCat, ↓dJoin, ↓dFmt, ↓dJs, ↓dJoined, ↓dGetT, ↓dInT, ↓dRev1, ↓bRep, ↓q1_at, ↓q2_at, ↓q3_at, ↓popex, ↓atx0, ↓atx1, ↓atx2, ↓atx3, ↓reduceIte,
  wipeD, backD, cast_succ_ne, at0, at1, at2, at3, ex_some, cut1, eqvS, eqvI, shS, shI, flatD, popget, emp_app, down0, down1, down2, down3, List.dropLast_concat, List.all_cons, List.all_nil, Bool.and_true, decide_eq_true_eq, isTy, startD, startF, List.map_cons, List.map_nil, List.length_cons, List.length_nil, List.nil_append, List.cons_append, List.replicate, List.getElem?_cons_zero, List.getElem?_cons_succ, List.getElem?_nil, List.set_cons_zero, List.set_cons_succ, List.set_nil, Nat.zero_add, Nat.reduceAdd, Nat.reduceSub, Nat.reduceLT, Nat.reduceLeDiff, Int.reduceAdd, Int.reduceSub, Int.toNat_natCast, if_true, if_false, ite_true, ite_false, Bool.false_eq_true, Bool.not_true, Bool.not_false, Bool.true_eq_false, true_and, and_true, Nat.sub_self, Nat.sub_zero, Nat.reduceMul, List.replicate_zero, List.append_nil])
      refine ⟨enc t2, menu14, 2 ^ 200, m2, rfl, (enc_gd wt2).1, by decide, by have := (enc_gd wt2).2.2; omega, by have := (enc_gd wt2).2.1; omega, menu_ok, rd2, by omega, by show _ < (1099511627776 : Int); omega, fun d1 fs3 n3 rd3 a3 b3 c3 => ?_⟩
      have b3 : n3 ≤ m2 + 10 * ((30 : Nat) : Int) := b3
      obtain ⟨p1, p2, p3⟩ := ch_gd c3 (n := 4) (w := 19080) (by have := (enc_gd wt2).2.1; omega) (by have := (enc_gd wt2).2.2; omega)
      (simp (config := {maxSteps := 3000000}) only [↓cRepr_at, ↓bNeS, ↓bEqS, ↓dSeq, ↓dN_at, ↓dIfS, ↓dRet, ↓dRetN, ↓dAsg, ↓dAsgO, ↓dSet_eq, ↓sc_n, ↓sc_d, ↓sc_o, ↓sc_y, ↓dDrop, ↓dAsgG, ↓dPar2, ↓dPar3, ↓dPopAt, ↓dInsert, ↓dRevL, ↓dRevT, ↓bRepS, ↓dgTup, ↓dgCons, ↓dgName, ↓dgNil, ↓dNext, ↓dBreak, ↓dCont, ↓dVar, ↓dC, ↓dOp, ↓dTest, ↓dAnd, ↓dOr, ↓dNot, ↓dAndV, ↓dOrV, ↓dNotV, ↓dIf, ↓dIfL, ↓dNil, ↓dCons, ↓dTup, ↓dLst, ↓dFrz, ↓dCall, ↓dCallP_h, ↓dCallF_h, ↓dCallN_h, ↓hid_1, ↓dSeqOf, ↓dRange1, ↓dRange2, ↓dEnum, ↓dZip, ↓dForD, ↓forD, ↓dLcD, ↓dYes, ↓dAppend, ↓dPop, ↓dExtend, ↓dSetItem, ↓dTruO, ↓bInt, ↓bAdd, ↓bAddB, ↓dNeg, ↓bEq, ↓bNe, ↓bIs, ↓bIsNot, ↓bLt, ↓bLe, ↓bGt, ↓bGe, ↓bOrd, ↓dChain, ↓bIn, ↓bIx, ↓dIxO, ↓dLenO, ↓dNo, ↓dYesO, ↓dSlice, ↓SlD, ↓dIsi, ↓dIsi2, ↓cLen, ↓cAll, ↓cStr, ↓cInt, ↓cTuple, ↓dListOf, ↓dCat, ↓dJoin, ↓dFmt, ↓dJs, ↓dJoined, ↓dGetT, ↓dInT, ↓dRev1, ↓bRep, ↓q1_at, ↓q2_at, ↓q3_at, ↓popex, ↓atx0, ↓atx1, ↓atx2, ↓atx3, ↓reduceIte,
  wipeD, backD, cast_succ_ne, at0, at1, at2, at3, ex_some, cut1, eqvS, eqvI, shS, shI, flatD, popget, emp_app, down0, down1, down2, down3, List.dropLast_concat, List.all_cons, List.all_nil, Bool.and_true, decide_eq_true_eq, isTy, startD, startF, List.map_cons, List.map_nil, List.length_cons, List.length_nil, List.nil_append, List.cons_append, List.replicate, List.getElem?_cons_zero, List.getElem?_cons_succ, List.getElem?_nil, List.set_cons_zero, List.set_cons_succ, List.set_nil, Nat.zero_add, Nat.reduceAdd, Nat.reduceSub, Nat.reduceLT, Nat.reduceLeDiff, Int.reduceAdd, Int.reduceSub, Int.toNat_natCast, if_true, if_false, ite_true, ite_false, Bool.false_eq_true, Bool.not_true, Bool.not_false, Bool.true_eq_false, true_and, and_true, Nat.sub_self, Nat.sub_zero, Nat.reduceMul, List.replicate_zero, List.append_nil])
      refine ⟨d1, menu14, 2 ^ 200 + 1, n3, rfl, p1, by decide, by omega, by omega, menu_ok, rd3, by omega, by show _ < (1099511627776 : Int); omega, fun d2 fs4 n4 rd4 a4 b4 c4 => ?_⟩
      have b4 : n4 ≤ n3 + 10 * ((30 : Nat) : Int) := b4
      obtain ⟨q1, q2, q3⟩ := ch_gd c4 (n := 6) (w := 40160) (by omega) (by omega)
      (simp (config := {maxSteps := 3000000}) only [↓cRepr_at, ↓bNeS, ↓bEqS, ↓dSeq, ↓dN_at, ↓dIfS, ↓dRet, ↓dRetN, ↓dAsg, ↓dAsgO, ↓dSet_eq, ↓sc_n, ↓sc_d, ↓sc_o, ↓sc_y, ↓dDrop, ↓dAsgG, ↓dPar2, ↓dPar3, ↓dPopAt, ↓dInsert, ↓dRevL, ↓dRevT, ↓bRepS, ↓dgTup, ↓dgCons, ↓dgName, ↓dgNil, ↓dNext, ↓dBreak, ↓dCont, ↓dVar, ↓dC, ↓dOp, ↓dTest, ↓dAnd, ↓dOr, ↓dNot, ↓dAndV, ↓dOrV, ↓dNotV, ↓dIf, ↓dIfL, ↓dNil, ↓dCons, ↓dTup, ↓dLst, ↓dFrz, ↓dCall, ↓dCallP_h, ↓dCallF_h, ↓dCallN_h, ↓hid_1, ↓dSeqOf, ↓dRange1, ↓dRange2, ↓dEnum, ↓dZip, ↓dForD, ↓forD, ↓dLcD, ↓dYes, ↓dAppend, ↓dPop, ↓dExtend, ↓dSetItem, ↓dTruO, ↓bInt, ↓bAdd, ↓bAddB, ↓dNeg, ↓bEq, ↓bNe, ↓bIs, ↓bIsNot, ↓bLt, ↓bLe, ↓bGt, ↓bGe, ↓bOrd, ↓dChain, ↓bIn, ↓bIx, ↓dIxO, ↓dLenO, ↓dNo, ↓dYesO, ↓dSlice, ↓SlD, ↓dIsi, ↓dIsi2, ↓cLen, ↓cAll, ↓cStr, ↓cInt, ↓cTuple, ↓dListOf, ↓dCat, ↓dJoin, ↓dFmt, ↓dJs, ↓dJoined, ↓dGetT, ↓dInT, ↓dRev1, ↓bRep, ↓q1_at, ↓q2_at, ↓q3_at, ↓popex, ↓atx0, ↓atx1, ↓atx2, ↓atx3, ↓reduceIte,
  wipeD, backD, cast_succ_ne, at0, at1, at2, at3, ex_some, cut1, eqvS, eqvI, shS, shI, flatD, popget, emp_app, down0, down1, down2, down3, List.dropLast_concat, List.all_cons, List.all_nil, Bool.and_true, decide_eq_true_eq, isTy, startD, startF, List.map_cons, List.map_nil, List.length_cons, List.length_nil, List.nil_append, List.cons_append, List.replicate, List.getElem?_cons_zero, List.getElem?_cons_succ, List.getElem?_nil, List.set_cons_zero, List.set_cons_succ, List.set_nil, Nat.zero_add, Nat.reduceAdd, Nat.reduceSub, Nat.reduceLT, Nat.reduceLeDiff, Int.reduceAdd, Int.reduceSub, Int.toNat_natCast, if_true, if_false, ite_true, ite_false, Bool.false_eq_true, Bool.not_true, Bool.not_false, Bool.true_eq_false, true_and, and_true, Nat.sub_self, Nat.sub_zero, Nat.reduceMul, List.replicate_zero, List.append_nil])
      have hI : ∀ z ∈ [enc t2, d1, d2], Ok1 z := fun z hz => by
        simp only [List.mem_cons, List.not_mem_nil, or_false] at hz
        rcases hz with rfl | rfl | rfl
        · exact ⟨okV_le (by decide) (enc_gd wt2).1, by have := (enc_gd wt2).2.1; omega, by have := (enc_gd wt2).2.2; omega⟩
        · exact ⟨okV_le (by decide) p1, by omega, by omega⟩
        · exact ⟨okV_le (by decide) q1, by omega, by omega⟩
      refine ⟨by omega, next _ ⟨fs4, n4, es ++ [enc t2, d1, d2], some _, some _, some _, some _, some _, rfl, rd4, by omega, by omega, all_app ho hI, ?_⟩⟩
      rw [List.length_append]; simp only [List.length_cons, List.length_nil]; omega
    · refine ⟨enc t, menu14, 2 ^ 200, m1, rfl, (enc_gd wt1).1, by decide, by have := (enc_gd wt1).2.2; omega, by have := (enc_gd wt1).2.1; omega, menu_ok, rd1, by omega, by show _ < (1099511627776 : Int); omega, fun d1 fs3 n3 rd3 a3 b3 c3 => ?_⟩
      have b3 : n3 ≤ m1 + 10 * ((30 : Nat) : Int) := b3
      obtain ⟨p1, p2, p3⟩ := ch_gd c3 (n := 4) (w := 19080) (by have := (enc_gd wt1).2.1; omega) (by have := (enc_gd wt1).2.2; omega)
      (simp (config := {maxSteps := 3000000}) only [↓cRepr_at, ↓bNeS, ↓bEqS, ↓dSeq, ↓dN_at, ↓dIfS, ↓dRet, ↓dRetN, ↓dAsg, ↓dAsgO, ↓dSet_eq, ↓sc_n, ↓sc_d, ↓sc_o, ↓sc_y, ↓dDrop, ↓dAsgG, ↓dPar2, ↓dPar3, ↓dPopAt, ↓dInsert, ↓dRevL, ↓dRevT, ↓bRepS, ↓dgTup, ↓dgCons, ↓dgName, ↓dgNil, ↓dNext, ↓dBreak, ↓dCont, ↓dVar, ↓dC, ↓dOp, ↓dTest, ↓dAnd, ↓dOr, ↓dNot, ↓dAndV, ↓dOrV, ↓dNotV, ↓dIf, ↓dIfL, ↓dNil, ↓dCons, ↓dTup, ↓dLst, ↓dFrz, ↓dCall, ↓dCallP_h, ↓dCallF_h, ↓dCallN_h, ↓hid_1, ↓dSeqOf, ↓dRange1, ↓dRange2, ↓dEnum, ↓dZip, ↓dForD, ↓forD, ↓dLcD, ↓dYes, ↓dAppend, ↓dPop, ↓dExtend, ↓dSetItem, ↓dTruO, ↓bInt, ↓bAdd, ↓bAddB, ↓dNeg, ↓bEq, ↓bNe, ↓bIs, ↓bIsNot, ↓bLt, ↓bLe, ↓bGt, ↓bGe, ↓bOrd, ↓dChain, ↓bIn, ↓bIx, ↓dIxO, ↓dLenO, ↓dNo, ↓dYesO, ↓dSlice, ↓SlD, ↓dIsi, ↓dIsi2, ↓cLen, ↓cAll, ↓cStr, ↓cInt, ↓cTuple, ↓dListOf, ↓dCat, ↓dJoin, ↓dFmt, ↓dJs, ↓dJoined, ↓dGetT, ↓dInT, ↓dRev1, ↓bRep, ↓q1_at, ↓q2_at, ↓q3_at, ↓popex, ↓atx0, ↓atx1, ↓atx2, ↓atx3, ↓reduceIte,
  wipeD, backD, cast_succ_ne, at0, at1, at2, at3, ex_some, cut1, eqvS, eqvI, shS, shI, flatD, popget, emp_app, down0, down1, down2, down3, List.dropLast_concat, List.all_cons, List.all_nil, Bool.and_true, decide_eq_true_eq, isTy, startD, startF, List.map_cons, List.map_nil, List.length_cons, List.length_nil, List.nil_append, List.cons_append, List.replicate, List.getElem?_cons_zero, List.getElem?_cons_succ, List.getElem?_nil, List.set_cons_zero, List.set_cons_succ, List.set_nil, Nat.zero_add, Nat.reduceAdd, Nat.reduceSub, Nat.reduceLT, Nat.reduceLeDiff, Int.reduceAdd, Int.reduceSub, Int.toNat_natCast, if_true, if_false, ite_true, ite_false, Bool.false_eq_true, Bool.not_true, Bool.not_false, Bool.true_eq_false, true_and, and_true, Nat.sub_self, Nat.sub_zero, Nat.reduceMul, List.replicate_zero, List.append_nil])
      refine ⟨d1, menu14, 2 ^ 200 + 1, n3, rfl, p1, by decide, by omega, by omega, menu_ok, rd3, by omega, by show _ < (1099511627776 : Int); omega, fun d2 fs4 n4 rd4 a4 b4 c4 => ?_⟩
      have b4 : n4 ≤ n3 + 10 * ((30 : Nat) : Int) := b4
      obtain ⟨q1, q2, q3⟩ := ch_gd c4 (n := 6) (w := 40160) (by omega) (by omega)
      (simp (config := {maxSteps := 3000000}) only [↓cRepr_at, ↓bNeS, ↓bEqS, ↓dSeq, ↓dN_at, ↓dIfS, ↓dRet, ↓dRetN, ↓dAsg, ↓dAsgO, ↓dSet_eq, ↓sc_n, ↓sc_d, ↓sc_o, ↓sc_y, ↓dDrop, ↓dAsgG, ↓dPar2, ↓dPar3, ↓dPopAt, ↓dInsert, ↓dRevL, ↓dRevT, ↓bRepS, ↓dgTup, ↓dgCons, ↓dgName, ↓dgNil, ↓dNext, ↓dBreak, ↓dCont, ↓dVar, ↓dC, ↓dOp, ↓dTest, ↓dAnd, ↓dOr, ↓dNot, ↓dAndV, ↓dOrV, ↓dNotV, ↓dIf, ↓dIfL, ↓dNil, ↓dCons, ↓dTup, ↓dLst, ↓dFrz, ↓dCall, ↓dCallP_h, ↓dCallF_h, ↓dCallN_h, ↓hid_1, ↓dSeqOf, ↓dRange1, ↓dRange2, ↓dEnum, ↓dZip, ↓dForD, ↓forD, ↓dLcD, ↓dYes, ↓dAppend, ↓dPop, ↓dExtend, ↓dSetItem, ↓dTruO, ↓bInt, ↓bAdd, ↓bAddB, ↓dNeg, ↓bEq, ↓bNe, ↓bIs, ↓bIsNot, ↓bLt, ↓bLe, ↓bGt, ↓bGe, ↓bOrd, ↓dChain, ↓bIn, ↓bIx, ↓dIxO, ↓dLenO, ↓dNo, ↓dYesO, ↓dSlice, ↓SlD, ↓dIsi, ↓dIsi2, ↓cLen, ↓cAll, ↓cStr, ↓cInt, ↓cTuple, ↓dListOf, ↓dCat, ↓dJoin, ↓dFmt, ↓dJs, ↓dJoined, ↓dGetT, ↓dInT, ↓dRev1, ↓bRep, ↓q1_at, ↓q2_at, ↓q3_at, ↓popex, ↓atx0, ↓atx1, ↓atx2, ↓atx3, ↓reduceIte,
  wipeD, backD, cast_succ_ne, at0, at1, at2, at3, ex_some, cut1, eqvS, eqvI, shS, shI, flatD, popget, emp_app, down0, down1, down2, down3, List.dropLast_concat, List.all_cons, List.all_nil, Bool.and_true, decide_eq_true_eq, isTy, startD, startF, List.map_cons, List.map_nil, List.length_cons, List.length_nil, List.nil_append, List.cons_append, List.replicate, List.getElem?_cons_zero, List.getElem?_cons_succ, List.getElem?_nil, List.set_cons_zero, List.set_cons_succ, List.set_nil, Nat.zero_add, Nat.reduceAdd, Nat.reduceSub, Nat.reduceLT, Nat.reduceLeDiff, Int.reduceAdd, Int.reduceSub, Int.toNat_natCast, if_true, if_false, ite_true, ite_false, Bool.false_eq_true, Bool.not_true, Bool.not_false, Bool.true_eq_false, true_and, and_true, Nat.sub_self, Nat.sub_zero, Nat.reduceMul, List.replicate_zero, List.append_nil])
      have hI : ∀ z ∈ [enc t, d1, d2], Ok1 z := fun z hz => by
        simp only [List.mem_cons, List.not_mem_nil, or_false] at hz
        rcases hz with rfl | rfl | rfl
        · exact ⟨okV_le (by decide) (enc_gd wt1).1, by have := (enc_gd wt1).2.1; omega, by have := (enc_gd wt1).2.2; omega⟩
        · exact ⟨okV_le (by decide) p1, by omega, by omega⟩
        · exact ⟨okV_le (by decide) q1, by omega, by omega⟩
      refine ⟨by omega, next _ ⟨fs4, n4, es ++ [enc t, d1, d2], some _, some _, some _, some _, some _, rfl, rd4, by omega, by omega, all_app ho hI, ?_⟩⟩
      rw [List.length_append]; simp only [List.length_cons, List.length_nil]; omega
  rintro Γ ⟨fs, n, es, y4, y5, y6, y7, y8, rfl, rd, n0, n1, ho, hl⟩
  have hl : es.length ≤ 2042 := hl
  (simp (config := {maxSteps := 3000000}) only [↓cRepr_at, ↓bNeS, ↓bEqS, ↓dSeq, ↓dN_at, ↓dIfS, ↓dRet, ↓dRetN, ↓dAsg, ↓dAsgO, ↓dSet_eq, ↓sc_n, ↓sc_d, ↓sc_o, ↓sc_y, ↓dDrop, ↓dAsgG, ↓dPar2, ↓dPar3, ↓dPopAt, ↓dInsert, ↓dRevL, ↓dRevT, ↓bRepS, ↓dgTup, ↓dgCons, ↓dgName, ↓dgNil, ↓dNext, ↓dBreak, ↓dCont, ↓dVar, ↓dC, ↓dOp, ↓dTest, ↓dAnd, ↓dOr, ↓dNot, ↓dAndV, ↓dOrV, ↓dNotV, ↓dIf, ↓dIfL, ↓dNil, ↓dCons, ↓dTup, ↓dLst, ↓dFrz, ↓dCall, ↓dCallP_h, ↓dCallF_h, ↓dCallN_h, ↓hid_1, ↓dSeqOf, ↓dRange1, ↓dRange2, ↓dEnum, ↓dZip, ↓dForD, ↓forD, ↓dLcD, ↓dYes, ↓dAppend, ↓dPop, ↓dExtend, ↓dSetItem, ↓dTruO, ↓bInt, ↓bAdd, ↓bAddB, ↓dNeg, ↓bEq, ↓bNe, ↓bIs, ↓bIsNot, ↓bLt, ↓bLe, ↓bGt, ↓bGe, ↓bOrd, ↓dChain, ↓bIn, ↓bIx, ↓dIxO, ↓dLenO, ↓dNo, ↓dYesO, ↓dSlice, ↓SlD, ↓dIsi, ↓dIsi2, ↓cLen, ↓cAll, ↓cStr, ↓cInt, ↓cTuple, ↓dListOf, ↓dCat, ↓dJoin, ↓dFmt, ↓dJs, ↓dJoined, ↓dGetT, ↓dInT, ↓dRev1, ↓bRep, ↓q1_at, ↓q2_at, ↓q3_at, ↓popex, ↓atx0, ↓atx1, ↓atx2, ↓atx3, ↓reduceIte,
  wipeD, backD, cast_succ_ne, at0, at1, at2, at3, ex_some, cut1, eqvS, eqvI, shS, shI, flatD, popget, emp_app, down0, down1, down2, down3, List.dropLast_concat, List.all_cons, List.all_nil, Bool.and_true, decide_eq_true_eq, isTy, startD, startF, List.map_cons, List.map_nil, List.length_cons, List.length_nil, List.nil_append, List.cons_append, List.replicate, List.getElem?_cons_zero, List.getElem?_cons_succ, List.getElem?_nil, List.set_cons_zero, List.set_cons_succ, List.set_nil, Nat.zero_add, Nat.reduceAdd, Nat.reduceSub, Nat.reduceLT, Nat.reduceLeDiff, Int.reduceAdd, Int.reduceSub, Int.toNat_natCast, if_true, if_false, ite_true, ite_false, Bool.false_eq_true, Bool.not_true, Bool.not_false, Bool.true_eq_false, true_and, and_true, Nat.sub_self, Nat.sub_zero, Nat.reduceMul, List.replicate_zero, List.append_nil])
  refine forD_inv (I2 ns fs es y4 y5 y6 y8) _ 0 _ ?_ ⟨y7, none, none, none, rfl⟩ ?_
  · rintro j d e Γ N ⟨y7, y9, ya, yb, rfl⟩ next
    have hd := ho d (List.mem_of_getElem? e)
    have hw : Wr d := hd.wr (by decide) (by decide) (by decide)
    rcases int_or d with ⟨i, rfl⟩ | h0
    · (simp (config := {maxSteps := 3000000}) only [↓cRepr_at, ↓bNeS, ↓bEqS, isInt, ↓dSeq, ↓dN_at, ↓dIfS, ↓dRet, ↓dRetN, ↓dAsg, ↓dAsgO, ↓dSet_eq, ↓sc_n, ↓sc_d, ↓sc_o, ↓sc_y, ↓dDrop, ↓dAsgG, ↓dPar2, ↓dPar3, ↓dPopAt, ↓dInsert, ↓dRevL, ↓dRevT, ↓bRepS, ↓dgTup, ↓dgCons, ↓dgName, ↓dgNil, ↓dNext, ↓dBreak, ↓dCont, ↓dVar, ↓dC, ↓dOp, ↓dTest, ↓dAnd, ↓dOr, ↓dNot, ↓dAndV, ↓dOrV, ↓dNotV, ↓dIf, ↓dIfL, ↓dNil, ↓dCons, ↓dTup, ↓dLst, ↓dFrz, ↓dCall, ↓dCallP_h, ↓dCallF_h, ↓dCallN_h, ↓hid_1, ↓dSeqOf, ↓dRange1, ↓dRange2, ↓dEnum, ↓dZip, ↓dForD, ↓forD, ↓dLcD, ↓dYes, ↓dAppend, ↓dPop, ↓dExtend, ↓dSetItem, ↓dTruO, ↓bInt, ↓bAdd, ↓bAddB, ↓dNeg, ↓bEq, ↓bNe, ↓bIs, ↓bIsNot, ↓bLt, ↓bLe, ↓bGt, ↓bGe, ↓bOrd, ↓dChain, ↓bIn, ↓bIx, ↓dIxO, ↓dLenO, ↓dNo, ↓dYesO, ↓dSlice, ↓SlD, ↓dIsi, ↓dIsi2, ↓cLen, ↓cAll, ↓cStr, ↓cInt, ↓cTuple, ↓dListOf, ↓dCat, ↓dJoin, ↓dFmt, ↓dJs, ↓dJoined, ↓dGetT, ↓dInT, ↓dRev1, ↓bRep, ↓q1_at, ↓q2_at, ↓q3_at, ↓popex, ↓atx0, ↓atx1, ↓atx2, ↓atx3, ↓reduceIte,
  wipeD, backD, cast_succ_ne, at0, at1, at2, at3, ex_some, cut1, eqvS, eqvI, shS, shI, flatD, popget, emp_app, down0, down1, down2, down3, List.dropLast_concat, List.all_cons, List.all_nil, Bool.and_true, decide_eq_true_eq, isTy, startD, startF, List.map_cons, List.map_nil, List.length_cons, List.length_nil, List.nil_append, List.cons_append, List.replicate, List.getElem?_cons_zero, List.getElem?_cons_succ, List.getElem?_nil, List.set_cons_zero, List.set_cons_succ, List.set_nil, Nat.zero_add, Nat.reduceAdd, Nat.reduceSub, Nat.reduceLT, Nat.reduceLeDiff, Int.reduceAdd, Int.reduceSub, Int.toNat_natCast, if_true, if_false, ite_true, ite_false, Bool.false_eq_true, Bool.not_true, Bool.not_false, Bool.true_eq_false, true_and, and_true, Nat.sub_self, Nat.sub_zero, Nat.reduceMul, List.replicate_zero, List.append_nil])
      refine ⟨hw, hd, hd, "number", _, .tuple [], true, [], rfl, .inl rfl, hd, by have := hd.dp; omega, by have := hd.dp; simp only [List.length_nil]; omega, ?_⟩
      (simp (config := {maxSteps := 3000000}) only [↓cRepr_at, ↓bNeS, ↓bEqS, isInt, isNone_opt, ↓dSeq, ↓dN_at, ↓dIfS, ↓dRet, ↓dRetN, ↓dAsg, ↓dAsgO, ↓dSet_eq, ↓sc_n, ↓sc_d, ↓sc_o, ↓sc_y, ↓dDrop, ↓dAsgG, ↓dPar2, ↓dPar3, ↓dPopAt, ↓dInsert, ↓dRevL, ↓dRevT, ↓bRepS, ↓dgTup, ↓dgCons, ↓dgName, ↓dgNil, ↓dNext, ↓dBreak, ↓dCont, ↓dVar, ↓dC, ↓dOp, ↓dTest, ↓dAnd, ↓dOr, ↓dNot, ↓dAndV, ↓dOrV, ↓dNotV, ↓dIf, ↓dIfL, ↓dNil, ↓dCons, ↓dTup, ↓dLst, ↓dFrz, ↓dCall, ↓dCallP_h, ↓dCallF_h, ↓dCallN_h, ↓hid_1, ↓dSeqOf, ↓dRange1, ↓dRange2, ↓dEnum, ↓dZip, ↓dForD, ↓forD, ↓dLcD, ↓dYes, ↓dAppend, ↓dPop, ↓dExtend, ↓dSetItem, ↓dTruO, ↓bInt, ↓bAdd, ↓bAddB, ↓dNeg, ↓bEq, ↓bNe, ↓bIs, ↓bIsNot, ↓bLt, ↓bLe, ↓bGt, ↓bGe, ↓bOrd, ↓dChain, ↓bIn, ↓bIx, ↓dIxO, ↓dLenO, ↓dNo, ↓dYesO, ↓dSlice, ↓SlD, ↓dIsi, ↓dIsi2, ↓cLen, ↓cAll, ↓cStr, ↓cInt, ↓cTuple, ↓dListOf, ↓dCat, ↓dJoin, ↓dFmt, ↓dJs, ↓dJoined, ↓dGetT, ↓dInT, ↓dRev1, ↓bRep, ↓q1_at, ↓q2_at, ↓q3_at, ↓popex, ↓atx0, ↓atx1, ↓atx2, ↓atx3, ↓reduceIte,
  wipeD, backD, cast_succ_ne, at0, at1, at2, at3, ex_some, cut1, eqvS, eqvI, shS, shI, flatD, popget, emp_app, down0, down1, down2, down3, List.dropLast_concat, List.all_cons, List.all_nil, Bool.and_true, decide_eq_true_eq, isTy, startD, startF, List.map_cons, List.map_nil, List.length_cons, List.length_nil, List.nil_append, List.cons_append, List.replicate, List.getElem?_cons_zero, List.getElem?_cons_succ, List.getElem?_nil, List.set_cons_zero, List.set_cons_succ, List.set_nil, Nat.zero_add, Nat.reduceAdd, Nat.reduceSub, Nat.reduceLT, Nat.reduceLeDiff, Int.reduceAdd, Int.reduceSub, Int.toNat_natCast, if_true, if_false, ite_true, ite_false, Bool.false_eq_true, Bool.not_true, Bool.not_false, Bool.true_eq_false, true_and, and_true, Nat.sub_self, Nat.sub_zero, Nat.reduceMul, List.replicate_zero, List.append_nil])
      refine ⟨"condition", _, .tuple [], true, [], rfl, .inr rfl, hd, by have := hd.dp; omega, by have := hd.dp; simp only [List.length_nil]; omega, ?_⟩
      (simp (config := {maxSteps := 3000000}) only [↓cRepr_at, ↓bNeS, ↓bEqS, isInt, isNone_opt, ↓dSeq, ↓dN_at, ↓dIfS, ↓dRet, ↓dRetN, ↓dAsg, ↓dAsgO, ↓dSet_eq, ↓sc_n, ↓sc_d, ↓sc_o, ↓sc_y, ↓dDrop, ↓dAsgG, ↓dPar2, ↓dPar3, ↓dPopAt, ↓dInsert, ↓dRevL, ↓dRevT, ↓bRepS, ↓dgTup, ↓dgCons, ↓dgName, ↓dgNil, ↓dNext, ↓dBreak, ↓dCont, ↓dVar, ↓dC, ↓dOp, ↓dTest, ↓dAnd, ↓dOr, ↓dNot, ↓dAndV, ↓dOrV, ↓dNotV, ↓dIf, ↓dIfL, ↓dNil, ↓dCons, ↓dTup, ↓dLst, ↓dFrz, ↓dCall, ↓dCallP_h, ↓dCallF_h, ↓dCallN_h, ↓hid_1, ↓dSeqOf, ↓dRange1, ↓dRange2, ↓dEnum, ↓dZip, ↓dForD, ↓forD, ↓dLcD, ↓dYes, ↓dAppend, ↓dPop, ↓dExtend, ↓dSetItem, ↓dTruO, ↓bInt, ↓bAdd, ↓bAddB, ↓dNeg, ↓bEq, ↓bNe, ↓bIs, ↓bIsNot, ↓bLt, ↓bLe, ↓bGt, ↓bGe, ↓bOrd, ↓dChain, ↓bIn, ↓bIx, ↓dIxO, ↓dLenO, ↓dNo, ↓dYesO, ↓dSlice, ↓SlD, ↓dIsi, ↓dIsi2, ↓cLen, ↓cAll, ↓cStr, ↓cInt, ↓cTuple, ↓dListOf, ↓dCat, ↓dJoin, ↓dFmt, ↓dJs, ↓dJoined, ↓dGetT, ↓dInT, ↓dRev1, ↓bRep, ↓q1_at, ↓q2_at, ↓q3_at, ↓popex, ↓atx0, ↓atx1, ↓atx2, ↓atx3, ↓reduceIte,
  wipeD, backD, cast_succ_ne, at0, at1, at2, at3, ex_some, cut1, eqvS, eqvI, shS, shI, flatD, popget, emp_app, down0, down1, down2, down3, List.dropLast_concat, List.all_cons, List.all_nil, Bool.and_true, decide_eq_true_eq, isTy, startD, startF, List.map_cons, List.map_nil, List.length_cons, List.length_nil, List.nil_append, List.cons_append, List.replicate, List.getElem?_cons_zero, List.getElem?_cons_succ, List.getElem?_nil, List.set_cons_zero, List.set_cons_succ, List.set_nil, Nat.zero_add, Nat.reduceAdd, Nat.reduceSub, Nat.reduceLT, Nat.reduceLeDiff, Int.reduceAdd, Int.reduceSub, Int.toNat_natCast, if_true, if_false, ite_true, ite_false, Bool.false_eq_true, Bool.not_true, Bool.not_false, Bool.true_eq_false, true_and, and_true, Nat.sub_self, Nat.sub_zero, Nat.reduceMul, List.replicate_zero, List.append_nil])
      refine ⟨fun x e => (by cases e), hd, Nat.le_trans hd.wt (by decide), Nat.le_trans hd.wt (by decide), wr6 _ _ _ _ _ _, wr6 _ _ _ _ _ _, ?_⟩
      rw [show numD (.int i) = decide (0 ≤ i) from rfl]
      rw [if_neg (by simp)]
      refine ⟨hw, ?_⟩
      rw [if_neg (by simp)]
      exact next _ ⟨some _, some _, some _, some _, rfl⟩
    · (simp (config := {maxSteps := 3000000}) only [↓cRepr_at, ↓bNeS, ↓bEqS, h0, ↓dSeq, ↓dN_at, ↓dIfS, ↓dRet, ↓dRetN, ↓dAsg, ↓dAsgO, ↓dSet_eq, ↓sc_n, ↓sc_d, ↓sc_o, ↓sc_y, ↓dDrop, ↓dAsgG, ↓dPar2, ↓dPar3, ↓dPopAt, ↓dInsert, ↓dRevL, ↓dRevT, ↓bRepS, ↓dgTup, ↓dgCons, ↓dgName, ↓dgNil, ↓dNext, ↓dBreak, ↓dCont, ↓dVar, ↓dC, ↓dOp, ↓dTest, ↓dAnd, ↓dOr, ↓dNot, ↓dAndV, ↓dOrV, ↓dNotV, ↓dIf, ↓dIfL, ↓dNil, ↓dCons, ↓dTup, ↓dLst, ↓dFrz, ↓dCall, ↓dCallP_h, ↓dCallF_h, ↓dCallN_h, ↓hid_1, ↓dSeqOf, ↓dRange1, ↓dRange2, ↓dEnum, ↓dZip, ↓dForD, ↓forD, ↓dLcD, ↓dYes, ↓dAppend, ↓dPop, ↓dExtend, ↓dSetItem, ↓dTruO, ↓bInt, ↓bAdd, ↓bAddB, ↓dNeg, ↓bEq, ↓bNe, ↓bIs, ↓bIsNot, ↓bLt, ↓bLe, ↓bGt, ↓bGe, ↓bOrd, ↓dChain, ↓bIn, ↓bIx, ↓dIxO, ↓dLenO, ↓dNo, ↓dYesO, ↓dSlice, ↓SlD, ↓dIsi, ↓dIsi2, ↓cLen, ↓cAll, ↓cStr, ↓cInt, ↓cTuple, ↓dListOf, ↓dCat, ↓dJoin, ↓dFmt, ↓dJs, ↓dJoined, ↓dGetT, ↓dInT, ↓dRev1, ↓bRep, ↓q1_at, ↓q2_at, ↓q3_at, ↓popex, ↓atx0, ↓atx1, ↓atx2, ↓atx3, ↓reduceIte,
  wipeD, backD, cast_succ_ne, at0, at1, at2, at3, ex_some, cut1, eqvS, eqvI, shS, shI, flatD, popget, emp_app, down0, down1, down2, down3, List.dropLast_concat, List.all_cons, List.all_nil, Bool.and_true, decide_eq_true_eq, isTy, startD, startF, List.map_cons, List.map_nil, List.length_cons, List.length_nil, List.nil_append, List.cons_append, List.replicate, List.getElem?_cons_zero, List.getElem?_cons_succ, List.getElem?_nil, List.set_cons_zero, List.set_cons_succ, List.set_nil, Nat.zero_add, Nat.reduceAdd, Nat.reduceSub, Nat.reduceLT, Nat.reduceLeDiff, Int.reduceAdd, Int.reduceSub, Int.toNat_natCast, if_true, if_false, ite_true, ite_false, Bool.false_eq_true, Bool.not_true, Bool.not_false, Bool.true_eq_false, true_and, and_true, Nat.sub_self, Nat.sub_zero, Nat.reduceMul, List.replicate_zero, List.append_nil])
      refine ⟨hw, hd, hd, "number", _, .tuple [], true, [], rfl, .inl rfl, hd, by have := hd.dp; omega, by have := hd.dp; simp only [List.length_nil]; omega, ?_⟩
      (simp (config := {maxSteps := 3000000}) only [↓cRepr_at, ↓bNeS, ↓bEqS, h0, isNone_opt, ↓dSeq, ↓dN_at, ↓dIfS, ↓dRet, ↓dRetN, ↓dAsg, ↓dAsgO, ↓dSet_eq, ↓sc_n, ↓sc_d, ↓sc_o, ↓sc_y, ↓dDrop, ↓dAsgG, ↓dPar2, ↓dPar3, ↓dPopAt, ↓dInsert, ↓dRevL, ↓dRevT, ↓bRepS, ↓dgTup, ↓dgCons, ↓dgName, ↓dgNil, ↓dNext, ↓dBreak, ↓dCont, ↓dVar, ↓dC, ↓dOp, ↓dTest, ↓dAnd, ↓dOr, ↓dNot, ↓dAndV, ↓dOrV, ↓dNotV, ↓dIf, ↓dIfL, ↓dNil, ↓dCons, ↓dTup, ↓dLst, ↓dFrz, ↓dCall, ↓dCallP_h, ↓dCallF_h, ↓dCallN_h, ↓hid_1, ↓dSeqOf, ↓dRange1, ↓dRange2, ↓dEnum, ↓dZip, ↓dForD, ↓forD, ↓dLcD, ↓dYes, ↓dAppend, ↓dPop, ↓dExtend, ↓dSetItem, ↓dTruO, ↓bInt, ↓bAdd, ↓bAddB, ↓dNeg, ↓bEq, ↓bNe, ↓bIs, ↓bIsNot, ↓bLt, ↓bLe, ↓bGt, ↓bGe, ↓bOrd, ↓dChain, ↓bIn, ↓bIx, ↓dIxO, ↓dLenO, ↓dNo, ↓dYesO, ↓dSlice, ↓SlD, ↓dIsi, ↓dIsi2, ↓cLen, ↓cAll, ↓cStr, ↓cInt, ↓cTuple, ↓dListOf, ↓dCat, ↓dJoin, ↓dFmt, ↓dJs, ↓dJoined, ↓dGetT, ↓dInT, ↓dRev1, ↓bRep, ↓q1_at, ↓q2_at, ↓q3_at, ↓popex, ↓atx0, ↓atx1, ↓atx2, ↓atx3, ↓reduceIte,
  wipeD, backD, cast_succ_ne, at0, at1, at2, at3, ex_some, cut1, eqvS, eqvI, shS, shI, flatD, popget, emp_app, down0, down1, down2, down3, List.dropLast_concat, List.all_cons, List.all_nil, Bool.and_true, decide_eq_true_eq, isTy, startD, startF, List.map_cons, List.map_nil, List.length_cons, List.length_nil, List.nil_append, List.cons_append, List.replicate, List.getElem?_cons_zero, List.getElem?_cons_succ, List.getElem?_nil, List.set_cons_zero, List.set_cons_succ, List.set_nil, Nat.zero_add, Nat.reduceAdd, Nat.reduceSub, Nat.reduceLT, Nat.reduceLeDiff, Int.reduceAdd, Int.reduceSub, Int.toNat_natCast, if_true, if_false, ite_true, ite_false, Bool.false_eq_true, Bool.not_true, Bool.not_false, Bool.true_eq_false, true_and, and_true, Nat.sub_self, Nat.sub_zero, Nat.reduceMul, List.replicate_zero, List.append_nil])
      refine ⟨"condition", _, .tuple [], true, [], rfl, .inr rfl, hd, by have := hd.dp; omega, by have := hd.dp; simp only [List.length_nil]; omega, ?_⟩
      (simp (config := {maxSteps := 3000000}) only [↓cRepr_at, ↓bNeS, ↓bEqS, h0, isNone_opt, ↓dSeq, ↓dN_at, ↓dIfS, ↓dRet, ↓dRetN, ↓dAsg, ↓dAsgO, ↓dSet_eq, ↓sc_n, ↓sc_d, ↓sc_o, ↓sc_y, ↓dDrop, ↓dAsgG, ↓dPar2, ↓dPar3, ↓dPopAt, ↓dInsert, ↓dRevL, ↓dRevT, ↓bRepS, ↓dgTup, ↓dgCons, ↓dgName, ↓dgNil, ↓dNext, ↓dBreak, ↓dCont, ↓dVar, ↓dC, ↓dOp, ↓dTest, ↓dAnd, ↓dOr, ↓dNot, ↓dAndV, ↓dOrV, ↓dNotV, ↓dIf, ↓dIfL, ↓dNil, ↓dCons, ↓dTup, ↓dLst, ↓dFrz, ↓dCall, ↓dCallP_h, ↓dCallF_h, ↓dCallN_h, ↓hid_1, ↓dSeqOf, ↓dRange1, ↓dRange2, ↓dEnum, ↓dZip, ↓dForD, ↓forD, ↓dLcD, ↓dYes, ↓dAppend, ↓dPop, ↓dExtend, ↓dSetItem, ↓dTruO, ↓bInt, ↓bAdd, ↓bAddB, ↓dNeg, ↓bEq, ↓bNe, ↓bIs, ↓bIsNot, ↓bLt, ↓bLe, ↓bGt, ↓bGe, ↓bOrd, ↓dChain, ↓bIn, ↓bIx, ↓dIxO, ↓dLenO, ↓dNo, ↓dYesO, ↓dSlice, ↓SlD, ↓dIsi, ↓dIsi2, ↓cLen, ↓cAll, ↓cStr, ↓cInt, ↓cTuple, ↓dListOf, ↓dCat, ↓dJoin, ↓dFmt, ↓dJs, ↓dJoined, ↓dGetT, ↓dInT, ↓dRev1, ↓bRep, ↓q1_at, ↓q2_at, ↓q3_at, ↓popex, ↓atx0, ↓atx1, ↓atx2, ↓atx3, ↓reduceIte,
  wipeD, backD, cast_succ_ne, at0, at1, at2, at3, ex_some, cut1, eqvS, eqvI, shS, shI, flatD, popget, emp_app, down0, down1, down2, down3, List.dropLast_concat, List.all_cons, List.all_nil, Bool.and_true, decide_eq_true_eq, isTy, startD, startF, List.map_cons, List.map_nil, List.length_cons, List.length_nil, List.nil_append, List.cons_append, List.replicate, List.getElem?_cons_zero, List.getElem?_cons_succ, List.getElem?_nil, List.set_cons_zero, List.set_cons_succ, List.set_nil, Nat.zero_add, Nat.reduceAdd, Nat.reduceSub, Nat.reduceLT, Nat.reduceLeDiff, Int.reduceAdd, Int.reduceSub, Int.toNat_natCast, if_true, if_false, ite_true, ite_false, Bool.false_eq_true, Bool.not_true, Bool.not_false, Bool.true_eq_false, true_and, and_true, Nat.sub_self, Nat.sub_zero, Nat.reduceMul, List.replicate_zero, List.append_nil])
      refine ⟨fun x e => (by subst e; have := hd.str.2; omega), hd, Nat.le_trans hd.wt (by decide), Nat.le_trans hd.wt (by decide), wr6 _ _ _ _ _ _, wr6 _ _ _ _ _ _, ?_⟩
      rw [show numD d = false from numD_no h0]
      rw [if_neg (by simp)]
      refine ⟨hw, ?_⟩
      rw [if_neg (by simp)]
      exact next _ ⟨some _, some _, some _, some _, rfl⟩
  rintro Γ ⟨y7, y9, ya, yb, rfl⟩
  rfl
end
end T1

set_option Elab.async false
set_option linter.all false
set_option maxRecDepth 100000
namespace T1
open PySem PySem.Spec PyProof.Rows L2 DL
structure DefAt (K : PySem.W.Frag) (x : Str) (st : Stmt) : Prop where
  ex : ∃ (f : Addr) (oc : Value) (od an : Option Addr) (sl : Array (Option Value)) (kV doc pm cd ct : Value), PySem.W.nsIn K mainGlobals x = some (some (.ref f)) ∧
    K.lookup f = some ⟨oc, od, .func (PySem.W.fnOf x x (defArgs st) (defBody st) (defScope st) .none kV doc pm an cd ct), sl⟩ ∧ PySem.W.codeIn K cd x = true ∧ PySem.W.keepIn K (.ref f) = true
theorem DefAt.mk4 {K : PySem.W.Frag} {x : Str} {st : Stmt} {f : Addr} {oc : Value} {od an : Option Addr} {sl : Array (Option Value)} {kV doc pm cd ct : Value} (a : PySem.W.nsIn K mainGlobals x = some (some (.ref f)))
    (l : K.lookup f = some ⟨oc, od, .func (PySem.W.fnOf x x (defArgs st) (defBody st) (defScope st) .none kV doc pm an cd ct), sl⟩) (c : PySem.W.codeIn K cd x = true) (k : PySem.W.keepIn K (.ref f) = true) : DefAt K x st := ⟨⟨f, oc, od, an, sl, kV, doc, pm, cd, ct, a, l, c, k⟩⟩
inductive Ents (K : PySem.W.Frag) : List DictEntry → List (Str × List Str) → Prop
  | nil : Ents K [] []
  | cons {e : DictEntry} {es : List DictEntry} {x : Str} {ks : List Str} {l : List (Str × List Str)} (k : ∃ t, e.key = .str x t) (v : ∃ (a : Addr) (o : Obj) (its : List Value) (n : Nat), e.val = .ref a ∧ K.lookup a = some o ∧ o.cls = .type "tuple" ∧ o.data = .seq its.toArray n ∧ Vals (ks.map V.str) its) (r : Ents K es l) : Ents K (e :: es) ((x, ks) :: l)
theorem Ents.mk {K : PySem.W.Frag} {e : DictEntry} {es : List DictEntry} {x : Str} {ks : List Str} {l : List (Str × List Str)} {t : Tok} {a : Addr} {o : Obj} {its : List Value} {n : Nat} (k : e.key = .str x t) (v : e.val = .ref a) (lk : K.lookup a = some o) (c : o.cls = .type "tuple") (d : o.data = .seq its.toArray n) (vs : Vals (ks.map V.str) its) (r : Ents K es l) : Ents K (e :: es) ((x, ks) :: l) :=
  .cons ⟨t, k⟩ ⟨a, o, its, n, v, lk, c, d, vs⟩ r
def findT (l : List (Str × List Str)) (z : Str) : Option PyData := (l.find? fun p => decide (z = p.1)).map fun p => tupS p.2
theorem ents_find {K : PySem.W.Frag} {z : Str} : ∀ {es : List DictEntry} {l : List (Str × List Str)}, Ents K es l → (∀ ks ∈ l.map (·.2), ks.length ≤ 1000) → ∃ r, (match es.find? (·.key.isStr z) with | some e => some (some e.val) | none => if es.any (·.refKey) then none else some none) = some r ∧ (match findT l z with
    | none => r = none
    | some y => ∃ u v, r = some u ∧ RelV v u ∧ ∀ D, DL.Dp K D v y)
  | [], _, .nil, _ => ⟨none, rfl, rfl⟩
  | e :: es, _, .cons (x := x) (ks := ks) (l := l) ⟨t, k⟩ ⟨a, o, its, n, hv, lk, c, d, vs⟩ r, few => by
    have q := ents_find (z := z) r fun ks' h => few ks' (List.mem_cons_of_mem _ h)
    by_cases h : z = x
    · subst h
      have e1 : e.key.isStr z = true := by rw [k]; show (z == z) = true; simp
      refine ⟨some e.val, by simp only [List.find?_cons, e1], ?_⟩
      have e2 : findT ((z, ks) :: l) z = some (tupS ks) := by unfold findT; rw [List.find?_cons_of_pos (by simp)]; rfl
      rw [e2]
      refine ⟨e.val, .ref a, rfl, hv.symm ▸ rfl, fun D => .tup (.inr ⟨o, its.toArray, n, lk, c, d, ?_, by simpa using vs⟩) (dpAll_strs ks)⟩
      have q1 := vs.length
      rw [List.length_map] at q1
      rw [List.size_toArray, ← q1]
      exact Nat.le_trans (few ks List.mem_cons_self) (by decide)
    · have e1 : e.key.isStr z = false := by
        rw [k]
        show (x == z) = false
        simp
        exact fun w => h w.symm
      have e2 : findT ((x, ks) :: l) z = findT l z := by unfold findT; rw [List.find?_cons_of_neg (by simp [h])]
      have e3 : e.refKey = false := by
        show (match e.key with | .ref _ => true | _ => false) = false
        rw [k]
      rw [e2]
      simp only [List.find?_cons, e1, List.any_cons, e3, Bool.false_or]
      exact q
theorem ktab_of {K : PySem.W.Frag} {w : World} {d : Addr} {es : Array DictEntry} {n : Nat} {l : List (Str × List Str)} (lk : K.lookup d = some ⟨.type "dict", none, .dict es n, #[]⟩) (lit : PySem.W.KeysLit w.params es.toList) (low : (d == sysModules) = false) (en : Ents K es.toList l) (few : ∀ ks ∈ l.map (·.2), ks.length ≤ 1000) : KTab K w d (findT l) :=
  ⟨⟨es, n, ⟨lk, lit, low⟩, fun z => by
    obtain ⟨r, e, q⟩ := ents_find (z := z) en few
    refine ⟨r, ?_, q⟩
    unfold PySem.W.nsIn
    rw [lk]
    exact e⟩⟩
def numL : List (Str × List Str) := [("of", ["name", "name"]), ("my", ["name"]), ("+", ["number", "number"]), ("-", ["number", "number"]), ("*", ["number", "number"]), ("least", ["number", "number"]), ("most", ["number", "number"]), ("if", ["condition", "number", "number"]), ("count", ["condition"]), ("sum", ["number", "condition"])]
def condL : List (Str × List Str) := [("=", ["number", "number"]), ("<", ["number", "number"]), ("and", ["condition", "condition"]), ("or", ["condition", "condition"]), ("not", ["condition"])]
theorem numL_tab : findT numL = tabN := funext fun z => by
  by_cases h0 : z = ("of" : Str)
  · subst h0; rfl
  by_cases h1 : z = ("my" : Str)
  · subst h1; rfl
  by_cases h2 : z = ("+" : Str)
  · subst h2; rfl
  by_cases h3 : z = ("-" : Str)
  · subst h3; rfl
  by_cases h4 : z = ("*" : Str)
  · subst h4; rfl
  by_cases h5 : z = ("least" : Str)
  · subst h5; rfl
  by_cases h6 : z = ("most" : Str)
  · subst h6; rfl
  by_cases h7 : z = ("if" : Str)
  · subst h7; rfl
  by_cases h8 : z = ("count" : Str)
  · subst h8; rfl
  by_cases h9 : z = ("sum" : Str)
  · subst h9; rfl
  have e1 : findT numL z = none := by
    unfold findT numL
    simp only [List.find?_cons, decide_eq_false h0, decide_eq_false h1, decide_eq_false h2, decide_eq_false h3, decide_eq_false h4, decide_eq_false h5, decide_eq_false h6, decide_eq_false h7, decide_eq_false h8, decide_eq_false h9, List.find?_nil, Option.map_none]
  have e2 : tabN z = none := by
    unfold tabN numTab
    rw [if_neg h0, if_neg h1, if_neg h2, if_neg h3, if_neg h4, if_neg h5, if_neg h6, if_neg h7, if_neg h8, if_neg h9]
    rfl
  rw [e1, e2]
theorem condL_tab : findT condL = tabC := funext fun z => by
  by_cases h0 : z = ("=" : Str)
  · subst h0; rfl
  by_cases h1 : z = ("<" : Str)
  · subst h1; rfl
  by_cases h2 : z = ("and" : Str)
  · subst h2; rfl
  by_cases h3 : z = ("or" : Str)
  · subst h3; rfl
  by_cases h4 : z = ("not" : Str)
  · subst h4; rfl
  have e1 : findT condL z = none := by
    unfold findT condL
    simp only [List.find?_cons, decide_eq_false h0, decide_eq_false h1, decide_eq_false h2, decide_eq_false h3, decide_eq_false h4, List.find?_nil, Option.map_none]
  have e2 : tabC z = none := by
    unfold tabC condTab
    rw [if_neg h0, if_neg h1, if_neg h2, if_neg h3, if_neg h4]
    rfl
  rw [e1, e2]
section
variable {P : Program} {w : World} {K : PySem.W.Frag} {mg : Str → Option Value} {base : Heap} {f : Addr} {fd : FuncData}
theorem all_changed {j : Nat} (B : B0 mg) (F : Fun K "_law_changed" "_law_changed" (top 24) f fd) (bF : Binds K fd ["_law_reader_here", "_law_thing", "_law_menu"] []) (mF : mg "_law_changed" = some (.ref f))
    (h__law_draw : Has P w K mg base "_law_draw" j ["_law_reader_here", "_law_many"] (spF K drS)) : ∀ n : Nat, Has P w K mg base "_law_changed" (j + n) ["_law_reader_here", "_law_thing", "_law_menu"] (spF K (chS n))
  | 0 => by
    have no : ∀ vs H Q E, ¬ spF K (chS 0) vs H Q E := fun vs H Q E ⟨D, a, xs, ds, vs', ds', _, _, _, _, _, _, d, menu, e, m, _, _, _, _, h, _⟩ => Nat.not_lt_zero _ h
    exact ⟨f, fd, ⟨fun vs H Q E h => absurd h (no vs H Q E), fun A outer s H args us vs Q E _ _ _ _ h => absurd h (no vs H Q E)⟩, mF, F.kp, bF⟩
  | n + 1 => ⟨f, fd, ok__law_changed B F (h__law_draw.mono (Nat.le_add_right _ _)) (all_changed B F bF mF h__law_draw n), mF, F.kp, bF⟩
end
end T1

set_option Elab.async false
set_option linter.all false
set_option maxRecDepth 100000
namespace T1
open PySem PySem.Spec PyProof.Rows L2 DL
abbrev lawN : List Str := ["_law_script", "_law_reader_here", "_law_menu", "_law_some", "_law_turn", "_law_crew", "_law_slots", "_law_item", "_law_once", "_law_saved", "_law_want", "_law_got"]
theorem look {K : PySem.W.Frag} {h : Heap} (_ : K.In h) {x : Str} {v : Option Value} (a : PySem.W.nsIn K mainGlobals x = some v) : PySem.W.nsIn K mainGlobals x = some v := a
theorem look2 {K : PySem.W.Frag} {h : Heap} (_ : K.In h) (d : Addr) {o : Obj} (a : K.lookup d = some o) : K.lookup d = some o := a
structure TabAt (K : PySem.W.Frag) (w : World) (x : Str) (l : List (Str × List Str)) : Prop where
  ex : ∃ (d : Addr) (es : Array DictEntry) (n : Nat), PySem.W.nsIn K mainGlobals x = some (some (.ref d)) ∧ K.lookup d = some ⟨.type "dict", none, .dict es n, #[]⟩ ∧ PySem.W.KeysLit w.params es.toList ∧ (d == sysModules) = false ∧ Ents K es.toList l
structure StrAt (K : PySem.W.Frag) (x z : Str) : Prop where
  ex : ∃ t, PySem.W.nsIn K mainGlobals x = some (some (.str z t))
structure Top (K : PySem.W.Frag) (w : World) : Prop where
  dis_integer : DefAt K "is_integer" (top 1)
  dis_number : DefAt K "is_number" (top 2)
  dis_name : DefAt K "is_name" (top 3)
  dis_names : DefAt K "is_names" (top 4)
  dis_rising : DefAt K "is_rising" (top 5)
  dis_number_expression : DefAt K "is_number_expression" (top 12)
  dis_condition : DefAt K "is_condition" (top 13)
  dwrong_path : DefAt K "wrong_path" (top 14)
  dkinds_behind : DefAt K "kinds_behind" (top 15)
  d_walk : DefAt K "_walk" (top 16)
  d_path : DefAt K "_path" (top 17)
  d_kinds_in : DefAt K "_kinds_in" (top 18)
  d_fits : DefAt K "_fits" (top 19)
  d_counts : DefAt K "_counts" (top 20)
  d_law_reader : DefAt K "_law_reader" (top 22)
  d_law_draw : DefAt K "_law_draw" (top 23)
  d_law_changed : DefAt K "_law_changed" (top 24)
  d_law_is_integer : DefAt K "_law_is_integer" (top 25)
  d_law_is_name : DefAt K "_law_is_name" (top 26)
  d_law_are_names : DefAt K "_law_are_names" (top 27)
  d_law_rises : DefAt K "_law_rises" (top 28)
  d_law_part_ok : DefAt K "_law_part_ok" (top 30)
  d_law_wrong : DefAt K "_law_wrong" (top 31)
  d_law_leaf : DefAt K "_law_leaf" (top 32)
  d_law_condition : DefAt K "_law_condition" (top 33)
  d_law_number : DefAt K "_law_number" (top 34)
  d_law_plain_values : DefAt K "_law_plain_values" (top 35)
  d_law_expressions : DefAt K "_law_expressions" (top 36)
  dlaw : DefAt K "law" (top 37)
  d_law_plan : DefAt K "_law_plan" (top 29)
  zint : PySem.W.nsIn K mainGlobals "int" = some none
  zbool : PySem.W.nsIn K mainGlobals "bool" = some none
  zstr : PySem.W.nsIn K mainGlobals "str" = some none
  ztuple : PySem.W.nsIn K mainGlobals "tuple" = some none
  zlist : PySem.W.nsIn K mainGlobals "list" = some none
  zlen : PySem.W.nsIn K mainGlobals "len" = some none
  zall : PySem.W.nsIn K mainGlobals "all" = some none
  zany : PySem.W.nsIn K mainGlobals "any" = some none
  zzip : PySem.W.nsIn K mainGlobals "zip" = some none
  zrange : PySem.W.nsIn K mainGlobals "range" = some none
  zreversed : PySem.W.nsIn K mainGlobals "reversed" = some none
  zenumerate : PySem.W.nsIn K mainGlobals "enumerate" = some none
  zisinstance : PySem.W.nsIn K mainGlobals "isinstance" = some none
  zrepr : PySem.W.nsIn K mainGlobals "repr" = some none
  sNAME : StrAt K "NAME" "name"
  sNUMBER : StrAt K "NUMBER" "number"
  sCONDITION : StrAt K "CONDITION" "condition"
  tNUMBERS : TabAt K w "NUMBERS" numL
  tCONDITIONS : TabAt K w "CONDITIONS" condL
theorem all_law {P : Program} {w : World} {K : PySem.W.Frag} {h : Heap} {mg : Str → Option Value} {fa : Addr} (KX : K.In h) (G : h.Ns mainGlobals mg) (hfa : mg "law" = some (.ref fa)) (T : Top K w) :
    ∃ fd : FuncData, (∀ (s : Shared) (u : Value), BindsTo s fd ⟨[u], []⟩ [("_law_script", u)]) ∧ Fun K "law" "law" (top 37) fa fd ∧ LawBody P w K mg (top 37) "law" "_law_script" lawN 62 fa := by
  have B : B0 mg := ⟨PySem.W.mg_none_of KX G T.zint, PySem.W.mg_none_of KX G T.zbool, PySem.W.mg_none_of KX G T.zstr, PySem.W.mg_none_of KX G T.ztuple, PySem.W.mg_none_of KX G T.zlist, PySem.W.mg_none_of KX G T.zlen, PySem.W.mg_none_of KX G T.zall, PySem.W.mg_none_of KX G T.zany, PySem.W.mg_none_of KX G T.zzip, PySem.W.mg_none_of KX G T.zrange, PySem.W.mg_none_of KX G T.zreversed, PySem.W.mg_none_of KX G T.zenumerate, PySem.W.mg_none_of KX G T.zisinstance, PySem.W.mg_none_of KX G T.zrepr⟩
  obtain ⟨tNAME, aNAME⟩ := T.sNAME.ex
  have g_NAME : HasStr mg "NAME" _ := ⟨tNAME, PySem.W.mg_of KX G aNAME⟩
  obtain ⟨tNUMBER, aNUMBER⟩ := T.sNUMBER.ex
  have g_NUMBER : HasStr mg "NUMBER" _ := ⟨tNUMBER, PySem.W.mg_of KX G aNUMBER⟩
  obtain ⟨tCONDITION, aCONDITION⟩ := T.sCONDITION.ex
  have g_CONDITION : HasStr mg "CONDITION" _ := ⟨tCONDITION, PySem.W.mg_of KX G aCONDITION⟩
  obtain ⟨dNUMBERS, esNUMBERS, nNUMBERS, aNUMBERS, lkNUMBERS, litNUMBERS, lowNUMBERS, enNUMBERS⟩ := T.tNUMBERS.ex
  have g_NUMBERS := PySem.W.mg_of KX G aNUMBERS
  have k_NUMBERS := ktab_of lkNUMBERS litNUMBERS lowNUMBERS enNUMBERS (by decide)
  rw [numL_tab] at k_NUMBERS
  obtain ⟨dCONDITIONS, esCONDITIONS, nCONDITIONS, aCONDITIONS, lkCONDITIONS, litCONDITIONS, lowCONDITIONS, enCONDITIONS⟩ := T.tCONDITIONS.ex
  have g_CONDITIONS := PySem.W.mg_of KX G aCONDITIONS
  have k_CONDITIONS := ktab_of lkCONDITIONS litCONDITIONS lowCONDITIONS enCONDITIONS (by decide)
  rw [condL_tab] at k_CONDITIONS
  obtain ⟨fis_integer, _, _, _, _, _, _, _, _, _, ais_integer, lis_integer, cis_integer, kis_integer⟩ := T.dis_integer.ex
  have Fis_integer := fun_mk (st := top 1) lis_integer cis_integer kis_integer
  have mis_integer := PySem.W.mg_of KX G ais_integer
  have bis_integer := Fis_integer.binds (ps := ["thing"]) fun _ _ _ _ _ _ us hl => match us, hl with | [_], _ => rfl
  obtain ⟨fis_number, _, _, _, _, _, _, _, _, _, ais_number, lis_number, cis_number, kis_number⟩ := T.dis_number.ex
  have Fis_number := fun_mk (st := top 2) lis_number cis_number kis_number
  have mis_number := PySem.W.mg_of KX G ais_number
  have bis_number := Fis_number.binds (ps := ["thing"]) fun _ _ _ _ _ _ us hl => match us, hl with | [_], _ => rfl
  obtain ⟨fis_name, _, _, _, _, _, _, _, _, _, ais_name, lis_name, cis_name, kis_name⟩ := T.dis_name.ex
  have Fis_name := fun_mk (st := top 3) lis_name cis_name kis_name
  have mis_name := PySem.W.mg_of KX G ais_name
  have bis_name := Fis_name.binds (ps := ["thing"]) fun _ _ _ _ _ _ us hl => match us, hl with | [_], _ => rfl
  obtain ⟨fis_names, _, _, _, _, _, _, _, _, _, ais_names, lis_names, cis_names, kis_names⟩ := T.dis_names.ex
  have Fis_names := fun_mk (st := top 4) lis_names cis_names kis_names
  have mis_names := PySem.W.mg_of KX G ais_names
  have bis_names := Fis_names.binds (ps := ["thing"]) fun _ _ _ _ _ _ us hl => match us, hl with | [_], _ => rfl
  obtain ⟨fis_rising, _, _, _, _, _, _, _, _, _, ais_rising, lis_rising, cis_rising, kis_rising⟩ := T.dis_rising.ex
  have Fis_rising := fun_mk (st := top 5) lis_rising cis_rising kis_rising
  have mis_rising := PySem.W.mg_of KX G ais_rising
  have bis_rising := Fis_rising.binds (ps := ["row"]) fun _ _ _ _ _ _ us hl => match us, hl with | [_], _ => rfl
  obtain ⟨fis_number_expression, _, _, _, _, _, _, _, _, _, ais_number_expression, lis_number_expression, cis_number_expression, kis_number_expression⟩ := T.dis_number_expression.ex
  have Fis_number_expression := fun_mk (st := top 12) lis_number_expression cis_number_expression kis_number_expression
  have mis_number_expression := PySem.W.mg_of KX G ais_number_expression
  have bis_number_expression := Fis_number_expression.binds (ps := ["thing"]) fun _ _ _ _ _ _ us hl => match us, hl with | [_], _ => rfl
  obtain ⟨fis_condition, _, _, _, _, _, _, _, _, _, ais_condition, lis_condition, cis_condition, kis_condition⟩ := T.dis_condition.ex
  have Fis_condition := fun_mk (st := top 13) lis_condition cis_condition kis_condition
  have mis_condition := PySem.W.mg_of KX G ais_condition
  have bis_condition := Fis_condition.binds (ps := ["thing"]) fun _ _ _ _ _ _ us hl => match us, hl with | [_], _ => rfl
  obtain ⟨fwrong_path, _, _, _, _, _, _, _, _, _, awrong_path, lwrong_path, cwrong_path, kwrong_path⟩ := T.dwrong_path.ex
  have Fwrong_path := fun_mk (st := top 14) lwrong_path cwrong_path kwrong_path
  have mwrong_path := PySem.W.mg_of KX G awrong_path
  have bwrong_path := Fwrong_path.binds (ps := ["thing", "kind", "house"]) fun _ _ _ _ _ _ us hl => match us, hl with | [_, _, _], _ => rfl
  obtain ⟨fkinds_behind, _, _, _, _, _, _, _, _, _, akinds_behind, lkinds_behind, ckinds_behind, kkinds_behind⟩ := T.dkinds_behind.ex
  have Fkinds_behind := fun_mk (st := top 15) lkinds_behind ckinds_behind kkinds_behind
  have mkinds_behind := PySem.W.mg_of KX G akinds_behind
  have bkinds_behind := Fkinds_behind.binds (ps := ["word", "kind"]) fun _ _ _ _ _ _ us hl => match us, hl with | [_, _], _ => rfl
  obtain ⟨f_walk, _, _, _, _, _, _, _, _, _, a_walk, l_walk, c_walk, k_walk⟩ := T.d_walk.ex
  have F_walk := fun_mk (st := top 16) l_walk c_walk k_walk
  have m_walk := PySem.W.mg_of KX G a_walk
  have b_walk := F_walk.binds (ps := ["thing", "kind", "house"]) fun _ _ _ _ _ _ us hl => match us, hl with | [_, _, _], _ => rfl
  obtain ⟨f_path, _, _, _, _, _, _, _, _, _, a_path, l_path, c_path, k_path⟩ := T.d_path.ex
  have F_path := fun_mk (st := top 17) l_path c_path k_path
  have m_path := PySem.W.mg_of KX G a_path
  have b_path := F_path.binds (ps := ["rows", "at"]) fun _ _ _ _ _ _ us hl => match us, hl with | [_, _], _ => rfl
  obtain ⟨f_kinds_in, _, _, _, _, _, _, _, _, _, a_kinds_in, l_kinds_in, c_kinds_in, k_kinds_in⟩ := T.d_kinds_in.ex
  have F_kinds_in := fun_mk (st := top 18) l_kinds_in c_kinds_in k_kinds_in
  have m_kinds_in := PySem.W.mg_of KX G a_kinds_in
  have b_kinds_in := F_kinds_in.binds (ps := ["part", "kind"]) fun _ _ _ _ _ _ us hl => match us, hl with | [_, _], _ => rfl
  obtain ⟨f_fits, _, _, _, _, _, _, _, _, _, a_fits, l_fits, c_fits, k_fits⟩ := T.d_fits.ex
  have F_fits := fun_mk (st := top 19) l_fits c_fits k_fits
  have m_fits := PySem.W.mg_of KX G a_fits
  have b_fits := F_fits.binds (ps := ["part", "house", "counted"]) fun _ _ _ _ _ _ us hl => match us, hl with | [_, _, _], _ => rfl
  obtain ⟨f_counts, _, _, _, _, _, _, _, _, _, a_counts, l_counts, c_counts, k_counts⟩ := T.d_counts.ex
  have F_counts := fun_mk (st := top 20) l_counts c_counts k_counts
  have m_counts := PySem.W.mg_of KX G a_counts
  have b_counts := F_counts.binds (ps := ["part"]) fun _ _ _ _ _ _ us hl => match us, hl with | [_], _ => rfl
  obtain ⟨f_law_reader, _, _, _, _, _, _, _, _, _, a_law_reader, l_law_reader, c_law_reader, k_law_reader⟩ := T.d_law_reader.ex
  have F_law_reader := fun_mk (st := top 22) l_law_reader c_law_reader k_law_reader
  have m_law_reader := PySem.W.mg_of KX G a_law_reader
  have b_law_reader := F_law_reader.binds (ps := ["_law_script"]) fun _ _ _ _ _ _ us hl => match us, hl with | [_], _ => rfl
  obtain ⟨f_law_draw, _, _, _, _, _, _, _, _, _, a_law_draw, l_law_draw, c_law_draw, k_law_draw⟩ := T.d_law_draw.ex
  have F_law_draw := fun_mk (st := top 23) l_law_draw c_law_draw k_law_draw
  have m_law_draw := PySem.W.mg_of KX G a_law_draw
  have b_law_draw := F_law_draw.binds (ps := ["_law_reader_here", "_law_many"]) fun _ _ _ _ _ _ us hl => match us, hl with | [_, _], _ => rfl
  obtain ⟨f_law_changed, _, _, _, _, _, _, _, _, _, a_law_changed, l_law_changed, c_law_changed, k_law_changed⟩ := T.d_law_changed.ex
  have F_law_changed := fun_mk (st := top 24) l_law_changed c_law_changed k_law_changed
  have m_law_changed := PySem.W.mg_of KX G a_law_changed
  have b_law_changed := F_law_changed.binds (ps := ["_law_reader_here", "_law_thing", "_law_menu"]) fun _ _ _ _ _ _ us hl => match us, hl with | [_, _, _], _ => rfl
  obtain ⟨f_law_is_integer, _, _, _, _, _, _, _, _, _, a_law_is_integer, l_law_is_integer, c_law_is_integer, k_law_is_integer⟩ := T.d_law_is_integer.ex
  have F_law_is_integer := fun_mk (st := top 25) l_law_is_integer c_law_is_integer k_law_is_integer
  have m_law_is_integer := PySem.W.mg_of KX G a_law_is_integer
  have b_law_is_integer := F_law_is_integer.binds (ps := ["_law_thing"]) fun _ _ _ _ _ _ us hl => match us, hl with | [_], _ => rfl
  obtain ⟨f_law_is_name, _, _, _, _, _, _, _, _, _, a_law_is_name, l_law_is_name, c_law_is_name, k_law_is_name⟩ := T.d_law_is_name.ex
  have F_law_is_name := fun_mk (st := top 26) l_law_is_name c_law_is_name k_law_is_name
  have m_law_is_name := PySem.W.mg_of KX G a_law_is_name
  have b_law_is_name := F_law_is_name.binds (ps := ["_law_thing"]) fun _ _ _ _ _ _ us hl => match us, hl with | [_], _ => rfl
  obtain ⟨f_law_are_names, _, _, _, _, _, _, _, _, _, a_law_are_names, l_law_are_names, c_law_are_names, k_law_are_names⟩ := T.d_law_are_names.ex
  have F_law_are_names := fun_mk (st := top 27) l_law_are_names c_law_are_names k_law_are_names
  have m_law_are_names := PySem.W.mg_of KX G a_law_are_names
  have b_law_are_names := F_law_are_names.binds (ps := ["_law_thing"]) fun _ _ _ _ _ _ us hl => match us, hl with | [_], _ => rfl
  obtain ⟨f_law_rises, _, _, _, _, _, _, _, _, _, a_law_rises, l_law_rises, c_law_rises, k_law_rises⟩ := T.d_law_rises.ex
  have F_law_rises := fun_mk (st := top 28) l_law_rises c_law_rises k_law_rises
  have m_law_rises := PySem.W.mg_of KX G a_law_rises
  have b_law_rises := F_law_rises.binds (ps := ["_law_thing"]) fun _ _ _ _ _ _ us hl => match us, hl with | [_], _ => rfl
  obtain ⟨f_law_part_ok, _, _, _, _, _, _, _, _, _, a_law_part_ok, l_law_part_ok, c_law_part_ok, k_law_part_ok⟩ := T.d_law_part_ok.ex
  have F_law_part_ok := fun_mk (st := top 30) l_law_part_ok c_law_part_ok k_law_part_ok
  have m_law_part_ok := PySem.W.mg_of KX G a_law_part_ok
  have b_law_part_ok := F_law_part_ok.binds (ps := ["_law_crew", "_law_slots", "_law_goal", "_law_item", "_law_inside"]) fun _ _ _ _ _ _ us hl => match us, hl with | [_, _, _, _, _], _ => rfl
  obtain ⟨f_law_wrong, _, _, _, _, _, _, _, _, _, a_law_wrong, l_law_wrong, c_law_wrong, k_law_wrong⟩ := T.d_law_wrong.ex
  have F_law_wrong := fun_mk (st := top 31) l_law_wrong c_law_wrong k_law_wrong
  have m_law_wrong := PySem.W.mg_of KX G a_law_wrong
  have b_law_wrong := F_law_wrong.binds (ps := ["_law_crew", "_law_slots", "_law_goal", "_law_item", "_law_inside", "_law_path_now"]) fun _ _ _ _ _ _ us hl => match us, hl with | [_, _, _, _, _, _], _ => rfl
  obtain ⟨f_law_leaf, _, _, _, _, _, _, _, _, _, a_law_leaf, l_law_leaf, c_law_leaf, k_law_leaf⟩ := T.d_law_leaf.ex
  have F_law_leaf := fun_mk (st := top 32) l_law_leaf c_law_leaf k_law_leaf
  have m_law_leaf := PySem.W.mg_of KX G a_law_leaf
  have b_law_leaf := F_law_leaf.binds (ps := ["_law_reader_here", "_law_crew", "_law_slots", "_law_inside"]) fun _ _ _ _ _ _ us hl => match us, hl with | [_, _, _, _], _ => rfl
  obtain ⟨f_law_condition, _, _, _, _, _, _, _, _, _, a_law_condition, l_law_condition, c_law_condition, k_law_condition⟩ := T.d_law_condition.ex
  have F_law_condition := fun_mk (st := top 33) l_law_condition c_law_condition k_law_condition
  have m_law_condition := PySem.W.mg_of KX G a_law_condition
  have b_law_condition := F_law_condition.binds (ps := ["_law_reader_here", "_law_crew", "_law_slots", "_law_inside", "_law_deep"]) fun _ _ _ _ _ _ us hl => match us, hl with | [_, _, _, _, _], _ => rfl
  obtain ⟨f_law_number, _, _, _, _, _, _, _, _, _, a_law_number, l_law_number, c_law_number, k_law_number⟩ := T.d_law_number.ex
  have F_law_number := fun_mk (st := top 34) l_law_number c_law_number k_law_number
  have m_law_number := PySem.W.mg_of KX G a_law_number
  have b_law_number := F_law_number.binds (ps := ["_law_reader_here", "_law_crew", "_law_slots", "_law_inside", "_law_deep"]) fun _ _ _ _ _ _ us hl => match us, hl with | [_, _, _, _, _], _ => rfl
  obtain ⟨f_law_plain_values, _, _, _, _, _, _, _, _, _, a_law_plain_values, l_law_plain_values, c_law_plain_values, k_law_plain_values⟩ := T.d_law_plain_values.ex
  have F_law_plain_values := fun_mk (st := top 35) l_law_plain_values c_law_plain_values k_law_plain_values
  have m_law_plain_values := PySem.W.mg_of KX G a_law_plain_values
  have b_law_plain_values := F_law_plain_values.binds (ps := []) fun _ _ _ _ _ _ us hl => match us, hl with | [], _ => rfl
  obtain ⟨f_law_expressions, _, _, _, _, _, _, _, _, _, a_law_expressions, l_law_expressions, c_law_expressions, k_law_expressions⟩ := T.d_law_expressions.ex
  have F_law_expressions := fun_mk (st := top 36) l_law_expressions c_law_expressions k_law_expressions
  have m_law_expressions := PySem.W.mg_of KX G a_law_expressions
  have b_law_expressions := F_law_expressions.binds (ps := []) fun _ _ _ _ _ _ us hl => match us, hl with | [], _ => rfl
  obtain ⟨flaw, _, _, _, _, _, _, _, _, _, alaw, llaw, claw, klaw⟩ := T.dlaw.ex
  have Flaw := fun_mk (st := top 37) llaw claw klaw
  have mlaw := PySem.W.mg_of KX G alaw
  have blaw := Flaw.binds (ps := ["_law_script"]) fun _ _ _ _ _ _ us hl => match us, hl with | [_], _ => rfl
  obtain ⟨f_law_plan, _, _, _, _, _, _, _, _, _, a_law_plan, l_law_plan, c_law_plan, k_law_plan⟩ := T.d_law_plan.ex
  have F_law_plan := fun_mk (st := top 29) l_law_plan c_law_plan k_law_plan
  have m_law_plan := PySem.W.mg_of KX G a_law_plan
  have b_law_plan := F_law_plan.binds (ps := ["_law_goal", "_law_word"]) fun _ _ _ _ _ _ us hl => match us, hl with | [_, _], _ => rfl
  have his_integer : ∀ base, Has P w K mg base "is_integer" 1 ["thing"] (spP K (q1 (fun _ => True) fun d => .bool (isInt d))) := fun base => ⟨fis_integer, _, ok_is_integer (k := 0) B Fis_integer, mis_integer, kis_integer, bis_integer⟩
  have his_number : ∀ base, Has P w K mg base "is_number" 2 ["thing"] (spP K (q1 (fun _ => True) fun d => .bool (numD d))) := fun base => ⟨fis_number, _, ok_is_number (k := 1) Fis_number (his_integer base), mis_number, kis_number, bis_number⟩
  have his_name : ∀ base, Has P w K mg base "is_name" 1 ["thing"] (spP K nmT) := fun base => ⟨fis_name, _, ok_is_name (k := 0) B Fis_name, mis_name, kis_name, bis_name⟩
  have his_rising : ∀ base, Has P w K mg base "is_rising" 1 ["row"] (spP K (q1 (fun d => ∃ ds, d = .tuple ds ∧ ds.length ≤ 100000 ∧ ∀ z ∈ ds, ∃ x, z = .str x) fun d => match d with | .tuple ds => .bool (riseP ds) | _ => .none)) := fun base => ⟨fis_rising, _, ok_is_rising (k := 0) B Fis_rising, mis_rising, kis_rising, bis_rising⟩
  have his_names : ∀ base, Has P w K mg base "is_names" 2 ["thing"] (spP K (q1 Ok1 fun d => .bool (riseD d))) := fun base => ⟨fis_names, _, ok_is_names (k := 1) B Fis_names (his_name base) (his_rising base), mis_names, kis_names, bis_names⟩
  have hkinds_behind : ∀ base, Has P w K mg base "kinds_behind" 1 ["word", "kind"] (spP K (q2 (fun d e => (∃ w, d = .str w) ∧ ∃ k, e = .str k ∧ PyData.strOk k = true) fKinds)) := fun base => ⟨fkinds_behind, _, ok_kinds_behind (k := 0) Fkinds_behind g_NUMBER g_NUMBERS g_CONDITIONS k_NUMBERS k_CONDITIONS, mkinds_behind, kkinds_behind, bkinds_behind⟩
  have h_counts : ∀ base, Has P w K mg base "_counts" 2 ["part"] (spP K (q1 Wordy fun d => .bool (counts d))) := fun base => ⟨f_counts, _, ok__counts (k := 1) B F_counts, m_counts, k_counts, b_counts⟩
  have h_fits : ∀ base, Has P w K mg base "_fits" 2 ["part", "house", "counted"] (spP K (q3 (fun _ e _ => e = .none) fun _ _ _ => .bool true)) := fun base => ⟨f_fits, _, ok__fits (k := 1) B F_fits (his_integer base), m_fits, k_fits, b_fits⟩
  have h_kinds_in : ∀ base, Has P w K mg base "_kinds_in" 2 ["part", "kind"] (spP K (q2 kiC kiF)) := fun base => ⟨f_kinds_in, _, ok__kinds_in (k := 1) B F_kinds_in g_NAME g_NUMBER (his_integer base) (his_name base) (hkinds_behind base), m_kinds_in, k_kinds_in, b_kinds_in⟩
  have h_walk : ∀ base, Has P w K mg base "_walk" 3 ["thing", "kind", "house"] (spP K walkS) := fun base => ⟨f_walk, _, ok__walk (k := 2) B F_walk g_NAME (h_kinds_in base) (h_fits base) (h_counts base), m_walk, k_walk, b_walk⟩
  have h_path : ∀ base, Has P w K mg base "_path" 3 ["rows", "at"] (spP K pathS) := fun base => ⟨f_path, _, ok__path (k := 2) B F_path, m_path, k_path, b_path⟩
  have hwrong_path : ∀ base, Has P w K mg base "wrong_path" 4 ["thing", "kind", "house"] (spP K (q3 (fun d e g => kdOk e ∧ g = .none ∧ T1.wt d ≤ 100000) fun d e _ => fwD d e)) := fun base => ⟨fwrong_path, _, ok_wrong_path (k := 3) B Fwrong_path (h_walk base) (h_path base), mwrong_path, kwrong_path, bwrong_path⟩
  have his_number_expression : ∀ base, Has P w K mg base "is_number_expression" 5 ["thing"] (spP K (q1 (fun d => T1.wt d ≤ 100000) fun d => .bool (fw d "number" []).isNone)) := fun base => ⟨fis_number_expression, _, ok_is_number_expression (k := 4) Fis_number_expression g_NUMBER (hwrong_path base), mis_number_expression, kis_number_expression, bis_number_expression⟩
  have his_condition : ∀ base, Has P w K mg base "is_condition" 5 ["thing"] (spP K (q1 (fun d => T1.wt d ≤ 100000) fun d => .bool (fw d "condition" []).isNone)) := fun base => ⟨fis_condition, _, ok_is_condition (k := 4) Fis_condition g_CONDITION (hwrong_path base), mis_condition, kis_condition, bis_condition⟩
  have h_law_is_integer : ∀ base, Has P w K mg base "_law_is_integer" 1 ["_law_thing"] (spP K (q1 (fun _ => True) fun d => .bool (isInt d))) := fun base => ⟨f_law_is_integer, _, ok__law_is_integer (k := 0) B F_law_is_integer, m_law_is_integer, k_law_is_integer, b_law_is_integer⟩
  have h_law_is_name : ∀ base, Has P w K mg base "_law_is_name" 1 ["_law_thing"] (spP K (q1 Ok1 fun d => .bool (isName d))) := fun base => ⟨f_law_is_name, _, ok__law_is_name (k := 0) B F_law_is_name, m_law_is_name, k_law_is_name, b_law_is_name⟩
  have h_law_are_names : ∀ base, Has P w K mg base "_law_are_names" 2 ["_law_thing"] (spP K (q1 Ok1 fun d => .bool (allN d))) := fun base => ⟨f_law_are_names, _, ok__law_are_names (k := 1) B F_law_are_names (h_law_is_name base), m_law_are_names, k_law_are_names, b_law_are_names⟩
  have h_law_rises : ∀ base, Has P w K mg base "_law_rises" 3 ["_law_thing"] (spP K (q1 Ok1 fun d => .bool (riseD d))) := fun base => ⟨f_law_rises, _, ok__law_rises (k := 2) B F_law_rises (h_law_are_names base), m_law_rises, k_law_rises, b_law_rises⟩
  have h_law_plan : ∀ base, Has P w K mg base "_law_plan" 1 ["_law_goal", "_law_word"] (spP K (q2 planC planF)) := fun base => ⟨f_law_plan, _, ok__law_plan (k := 0) F_law_plan, m_law_plan, k_law_plan, b_law_plan⟩
  have h_law_part_ok : ∀ base, Has P w K mg base "_law_part_ok" 2 ["_law_crew", "_law_slots", "_law_goal", "_law_item", "_law_inside"] (spP K pokS) := fun base => ⟨f_law_part_ok, _, ok__law_part_ok (k := 1) B F_law_part_ok (h_law_is_integer base) (h_law_is_name base) (h_law_plan base), m_law_part_ok, k_law_part_ok, b_law_part_ok⟩
  have h_law_wrong : ∀ base, Has P w K mg base "_law_wrong" 62 ["_law_crew", "_law_slots", "_law_goal", "_law_item", "_law_inside", "_law_path_now"] (spP K (wrS 60)) := fun base => all_wrong (j := 2) B F_law_wrong b_law_wrong m_law_wrong (h_law_part_ok base) ((h_law_plan base).mono (by decide)) 60
  have h_law_reader : ∀ base, Has P w K mg base "_law_reader" 1 ["_law_script"] (spN K rdN) := fun base => ⟨f_law_reader, _, ok__law_reader (k := 0) F_law_reader, m_law_reader, k_law_reader, b_law_reader⟩
  have h_law_plain_values : ∀ base, Has P w K mg base "_law_plain_values" 1 [] (spN K gdN) := fun base => ⟨f_law_plain_values, _, ok__law_plain_values (k := 0) B F_law_plain_values, m_law_plain_values, k_law_plain_values, b_law_plain_values⟩
  have h_law_expressions : ∀ base, Has P w K mg base "_law_expressions" 1 [] (spN K gdN) := fun base => ⟨f_law_expressions, _, ok__law_expressions (k := 0) B F_law_expressions, m_law_expressions, k_law_expressions, b_law_expressions⟩
  have h_law_draw : ∀ base, Has P w K mg base "_law_draw" 1 ["_law_reader_here", "_law_many"] (spF K drS) := fun base => ⟨f_law_draw, _, ok__law_draw (k := 0) B F_law_draw, m_law_draw, k_law_draw, b_law_draw⟩
  have h_law_leaf : ∀ base, Has P w K mg base "_law_leaf" 2 ["_law_reader_here", "_law_crew", "_law_slots", "_law_inside"] (spF K lfS) := fun base => ⟨f_law_leaf, _, ok__law_leaf (k := 1) B F_law_leaf (h_law_draw base), m_law_leaf, k_law_leaf, b_law_leaf⟩
  have h_law_changed : ∀ base, Has P w K mg base "_law_changed" 31 ["_law_reader_here", "_law_thing", "_law_menu"] (spF K (chS 30)) := fun base => all_changed (j := 1) B F_law_changed b_law_changed m_law_changed (h_law_draw base) 30
  have hex : ∀ base N, _ := fun base N => all_ex (P := P) (w := w) (base := base) (k := 2) B F_law_condition b_law_condition m_law_condition F_law_number b_law_number m_law_number ((h_law_draw base).mono (by decide)) (h_law_leaf base) N
  have same : flaw = fa := by
    rw [mlaw] at hfa
    cases hfa
    rfl
  subst same
  refine ⟨_, fun s u => .of_eq rfl, Flaw, body_law B fun base => ?_⟩
  exact ⟨(h_law_reader base).mono (by decide), (h_law_plain_values base).mono (by decide), (h_law_expressions base).mono (by decide), (hex base 3).2.mono (by decide), (hex base 3).1.mono (by decide), (h_law_changed base).mono (by decide),
    (h_law_is_integer base).mono (by decide), (h_law_is_name base).mono (by decide), (h_law_rises base).mono (by decide), h_law_wrong base, (his_integer base).mono (by decide), (his_number base).mono (by decide), (his_name base).mono (by decide), (his_names base).mono (by decide), (his_number_expression base).mono (by decide), (his_condition base).mono (by decide)⟩
end T1

set_option Elab.async false
set_option maxRecDepth 100000
open PySem PySem.W PyProof.Rows
set_option maxRecDepth 100000 in
set_option maxHeartbeats 0 in
theorem PySem.Challenge.cw_mumhouse_k01_kinds_by_form_holds : PySem.Challenge.rw_mumhouse_k01_kinds_by_form.Holds := by
  w_on; o_law; k_head; (case hw => w_witness2)
  k_fill
  refine DL.walkG (l := PySem.Challenge.rw_mumhouse_k01_kinds_by_form) (st := T1.top 37) (x := "law") (p := "_law_script") (N := T1.lawN) (k := 62) rfl rfl ⟨rfl, by decide, by decide⟩ (fun w h Y => PySem.W.kIn_of Y) ?F
  case F =>
    intro w mg fa h KX G hmg
    refine T1.all_law KX G hmg (T1.Top.mk
      (by refine' T1.DefAt.mk4 ?a ?l ?c ?k; (case a => k_is); (case l => k_is); (case c => k_is); (case k => k_is))
      (by refine' T1.DefAt.mk4 ?a ?l ?c ?k; (case a => k_is); (case l => k_is); (case c => k_is); (case k => k_is))
      (by refine' T1.DefAt.mk4 ?a ?l ?c ?k; (case a => k_is); (case l => k_is); (case c => k_is); (case k => k_is))
      (by refine' T1.DefAt.mk4 ?a ?l ?c ?k; (case a => k_is); (case l => k_is); (case c => k_is); (case k => k_is))
      (by refine' T1.DefAt.mk4 ?a ?l ?c ?k; (case a => k_is); (case l => k_is); (case c => k_is); (case k => k_is))
      (by refine' T1.DefAt.mk4 ?a ?l ?c ?k; (case a => k_is); (case l => k_is); (case c => k_is); (case k => k_is))
      (by refine' T1.DefAt.mk4 ?a ?l ?c ?k; (case a => k_is); (case l => k_is); (case c => k_is); (case k => k_is))
      (by refine' T1.DefAt.mk4 ?a ?l ?c ?k; (case a => k_is); (case l => k_is); (case c => k_is); (case k => k_is))
      (by refine' T1.DefAt.mk4 ?a ?l ?c ?k; (case a => k_is); (case l => k_is); (case c => k_is); (case k => k_is))
      (by refine' T1.DefAt.mk4 ?a ?l ?c ?k; (case a => k_is); (case l => k_is); (case c => k_is); (case k => k_is))
      (by refine' T1.DefAt.mk4 ?a ?l ?c ?k; (case a => k_is); (case l => k_is); (case c => k_is); (case k => k_is))
      (by refine' T1.DefAt.mk4 ?a ?l ?c ?k; (case a => k_is); (case l => k_is); (case c => k_is); (case k => k_is))
      (by refine' T1.DefAt.mk4 ?a ?l ?c ?k; (case a => k_is); (case l => k_is); (case c => k_is); (case k => k_is))
      (by refine' T1.DefAt.mk4 ?a ?l ?c ?k; (case a => k_is); (case l => k_is); (case c => k_is); (case k => k_is))
      (by refine' T1.DefAt.mk4 ?a ?l ?c ?k; (case a => k_is); (case l => k_is); (case c => k_is); (case k => k_is))
      (by refine' T1.DefAt.mk4 ?a ?l ?c ?k; (case a => k_is); (case l => k_is); (case c => k_is); (case k => k_is))
      (by refine' T1.DefAt.mk4 ?a ?l ?c ?k; (case a => k_is); (case l => k_is); (case c => k_is); (case k => k_is))
      (by refine' T1.DefAt.mk4 ?a ?l ?c ?k; (case a => k_is); (case l => k_is); (case c => k_is); (case k => k_is))
      (by refine' T1.DefAt.mk4 ?a ?l ?c ?k; (case a => k_is); (case l => k_is); (case c => k_is); (case k => k_is))
      (by refine' T1.DefAt.mk4 ?a ?l ?c ?k; (case a => k_is); (case l => k_is); (case c => k_is); (case k => k_is))
      (by refine' T1.DefAt.mk4 ?a ?l ?c ?k; (case a => k_is); (case l => k_is); (case c => k_is); (case k => k_is))
      (by refine' T1.DefAt.mk4 ?a ?l ?c ?k; (case a => k_is); (case l => k_is); (case c => k_is); (case k => k_is))
      (by refine' T1.DefAt.mk4 ?a ?l ?c ?k; (case a => k_is); (case l => k_is); (case c => k_is); (case k => k_is))
      (by refine' T1.DefAt.mk4 ?a ?l ?c ?k; (case a => k_is); (case l => k_is); (case c => k_is); (case k => k_is))
      (by refine' T1.DefAt.mk4 ?a ?l ?c ?k; (case a => k_is); (case l => k_is); (case c => k_is); (case k => k_is))
      (by refine' T1.DefAt.mk4 ?a ?l ?c ?k; (case a => k_is); (case l => k_is); (case c => k_is); (case k => k_is))
      (by refine' T1.DefAt.mk4 ?a ?l ?c ?k; (case a => k_is); (case l => k_is); (case c => k_is); (case k => k_is))
      (by refine' T1.DefAt.mk4 ?a ?l ?c ?k; (case a => k_is); (case l => k_is); (case c => k_is); (case k => k_is))
      (by refine' T1.DefAt.mk4 ?a ?l ?c ?k; (case a => k_is); (case l => k_is); (case c => k_is); (case k => k_is))
      (by refine' T1.DefAt.mk4 ?a ?l ?c ?k; (case a => k_is); (case l => k_is); (case c => k_is); (case k => k_is))
      (by k_is)
      (by k_is)
      (by k_is)
      (by k_is)
      (by k_is)
      (by k_is)
      (by k_is)
      (by k_is)
      (by k_is)
      (by k_is)
      (by k_is)
      (by k_is)
      (by k_is)
      (by k_is)
      (T1.StrAt.mk ⟨_, @T1.look _ _ KX "NAME" _ (by k_is)⟩)
      (T1.StrAt.mk ⟨_, @T1.look _ _ KX "NUMBER" _ (by k_is)⟩)
      (T1.StrAt.mk ⟨_, @T1.look _ _ KX "CONDITION" _ (by k_is)⟩)
      (by
        have q := @T1.look _ _ KX "NUMBERS" _ (by k_is)
        have l := T1.look2 KX 44 (by k_is)
        skip
        skip
        refine T1.TabAt.mk ⟨_, _, _, q, l, ?lit, ?low, ?en⟩
        case lit => exact ⟨⟨_, _, rfl, rfl⟩, ⟨⟨_, _, rfl, rfl⟩, ⟨⟨_, _, rfl, rfl⟩, ⟨⟨_, _, rfl, rfl⟩, ⟨⟨_, _, rfl, rfl⟩, ⟨⟨_, _, rfl, rfl⟩, ⟨⟨_, _, rfl, rfl⟩, ⟨⟨_, _, rfl, rfl⟩, ⟨⟨_, _, rfl, rfl⟩, ⟨⟨_, _, rfl, rfl⟩, trivial⟩⟩⟩⟩⟩⟩⟩⟩⟩⟩
        case low => decide
        case en =>
          (refine T1.Ents.mk rfl rfl (T1.look2 KX _ (by k_is)) rfl rfl (by first | exact .cons ⟨_, rfl⟩ .nil | exact .cons ⟨_, rfl⟩ (.cons ⟨_, rfl⟩ .nil) | exact .cons ⟨_, rfl⟩ (.cons ⟨_, rfl⟩ (.cons ⟨_, rfl⟩ .nil))) ?_)
          (refine T1.Ents.mk rfl rfl (T1.look2 KX _ (by k_is)) rfl rfl (by first | exact .cons ⟨_, rfl⟩ .nil | exact .cons ⟨_, rfl⟩ (.cons ⟨_, rfl⟩ .nil) | exact .cons ⟨_, rfl⟩ (.cons ⟨_, rfl⟩ (.cons ⟨_, rfl⟩ .nil))) ?_)
          (refine T1.Ents.mk rfl rfl (T1.look2 KX _ (by k_is)) rfl rfl (by first | exact .cons ⟨_, rfl⟩ .nil | exact .cons ⟨_, rfl⟩ (.cons ⟨_, rfl⟩ .nil) | exact .cons ⟨_, rfl⟩ (.cons ⟨_, rfl⟩ (.cons ⟨_, rfl⟩ .nil))) ?_)
          (refine T1.Ents.mk rfl rfl (T1.look2 KX _ (by k_is)) rfl rfl (by first | exact .cons ⟨_, rfl⟩ .nil | exact .cons ⟨_, rfl⟩ (.cons ⟨_, rfl⟩ .nil) | exact .cons ⟨_, rfl⟩ (.cons ⟨_, rfl⟩ (.cons ⟨_, rfl⟩ .nil))) ?_)
          (refine T1.Ents.mk rfl rfl (T1.look2 KX _ (by k_is)) rfl rfl (by first | exact .cons ⟨_, rfl⟩ .nil | exact .cons ⟨_, rfl⟩ (.cons ⟨_, rfl⟩ .nil) | exact .cons ⟨_, rfl⟩ (.cons ⟨_, rfl⟩ (.cons ⟨_, rfl⟩ .nil))) ?_)
          (refine T1.Ents.mk rfl rfl (T1.look2 KX _ (by k_is)) rfl rfl (by first | exact .cons ⟨_, rfl⟩ .nil | exact .cons ⟨_, rfl⟩ (.cons ⟨_, rfl⟩ .nil) | exact .cons ⟨_, rfl⟩ (.cons ⟨_, rfl⟩ (.cons ⟨_, rfl⟩ .nil))) ?_)
          (refine T1.Ents.mk rfl rfl (T1.look2 KX _ (by k_is)) rfl rfl (by first | exact .cons ⟨_, rfl⟩ .nil | exact .cons ⟨_, rfl⟩ (.cons ⟨_, rfl⟩ .nil) | exact .cons ⟨_, rfl⟩ (.cons ⟨_, rfl⟩ (.cons ⟨_, rfl⟩ .nil))) ?_)
          (refine T1.Ents.mk rfl rfl (T1.look2 KX _ (by k_is)) rfl rfl (by first | exact .cons ⟨_, rfl⟩ .nil | exact .cons ⟨_, rfl⟩ (.cons ⟨_, rfl⟩ .nil) | exact .cons ⟨_, rfl⟩ (.cons ⟨_, rfl⟩ (.cons ⟨_, rfl⟩ .nil))) ?_)
          (refine T1.Ents.mk rfl rfl (T1.look2 KX _ (by k_is)) rfl rfl (by first | exact .cons ⟨_, rfl⟩ .nil | exact .cons ⟨_, rfl⟩ (.cons ⟨_, rfl⟩ .nil) | exact .cons ⟨_, rfl⟩ (.cons ⟨_, rfl⟩ (.cons ⟨_, rfl⟩ .nil))) ?_)
          (refine T1.Ents.mk rfl rfl (T1.look2 KX _ (by k_is)) rfl rfl (by first | exact .cons ⟨_, rfl⟩ .nil | exact .cons ⟨_, rfl⟩ (.cons ⟨_, rfl⟩ .nil) | exact .cons ⟨_, rfl⟩ (.cons ⟨_, rfl⟩ (.cons ⟨_, rfl⟩ .nil))) ?_)
          exact .nil)
      (by
        have q := @T1.look _ _ KX "CONDITIONS" _ (by k_is)
        have l := T1.look2 KX 55 (by k_is)
        skip
        skip
        refine T1.TabAt.mk ⟨_, _, _, q, l, ?lit, ?low, ?en⟩
        case lit => exact ⟨⟨_, _, rfl, rfl⟩, ⟨⟨_, _, rfl, rfl⟩, ⟨⟨_, _, rfl, rfl⟩, ⟨⟨_, _, rfl, rfl⟩, ⟨⟨_, _, rfl, rfl⟩, trivial⟩⟩⟩⟩⟩
        case low => decide
        case en =>
          (refine T1.Ents.mk rfl rfl (T1.look2 KX _ (by k_is)) rfl rfl (by first | exact .cons ⟨_, rfl⟩ .nil | exact .cons ⟨_, rfl⟩ (.cons ⟨_, rfl⟩ .nil) | exact .cons ⟨_, rfl⟩ (.cons ⟨_, rfl⟩ (.cons ⟨_, rfl⟩ .nil))) ?_)
          (refine T1.Ents.mk rfl rfl (T1.look2 KX _ (by k_is)) rfl rfl (by first | exact .cons ⟨_, rfl⟩ .nil | exact .cons ⟨_, rfl⟩ (.cons ⟨_, rfl⟩ .nil) | exact .cons ⟨_, rfl⟩ (.cons ⟨_, rfl⟩ (.cons ⟨_, rfl⟩ .nil))) ?_)
          (refine T1.Ents.mk rfl rfl (T1.look2 KX _ (by k_is)) rfl rfl (by first | exact .cons ⟨_, rfl⟩ .nil | exact .cons ⟨_, rfl⟩ (.cons ⟨_, rfl⟩ .nil) | exact .cons ⟨_, rfl⟩ (.cons ⟨_, rfl⟩ (.cons ⟨_, rfl⟩ .nil))) ?_)
          (refine T1.Ents.mk rfl rfl (T1.look2 KX _ (by k_is)) rfl rfl (by first | exact .cons ⟨_, rfl⟩ .nil | exact .cons ⟨_, rfl⟩ (.cons ⟨_, rfl⟩ .nil) | exact .cons ⟨_, rfl⟩ (.cons ⟨_, rfl⟩ (.cons ⟨_, rfl⟩ .nil))) ?_)
          (refine T1.Ents.mk rfl rfl (T1.look2 KX _ (by k_is)) rfl rfl (by first | exact .cons ⟨_, rfl⟩ .nil | exact .cons ⟨_, rfl⟩ (.cons ⟨_, rfl⟩ .nil) | exact .cons ⟨_, rfl⟩ (.cons ⟨_, rfl⟩ (.cons ⟨_, rfl⟩ .nil))) ?_)
          exact .nil)
      )

