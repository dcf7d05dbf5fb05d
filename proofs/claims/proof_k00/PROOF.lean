import PyProof.Rows.All
import Wide.All
import OpenK.AllK
import Wide.FinOn
import HandS.ForMost
import HandS.Steps
import HandS.Zip
import HandS.IsInst
import HandS.Gcd
import HandS.Flow
import HandS.Style
import HandS.Defaults
import HandS.HeadHook2
import HandS.Wide
import HandS.TupMul
import HandS.TupAny
import HandS.HeadHook4
import HandS.HeadEnd
import HandS.Head2
import KE.GoesEnum
import PyProof.P3Eq
import KE.DatumOrd
import HandS.SortKw
import HandS.Star
import PyProof.ReprBulk
import PyProof.FitsInt
import HandS.Deep
import KE.SortData
import KE.DataCmp
import HandS.TupSets
import KE.KDictCopyH
import KE.KDictSum
import KE.KeyNested
import KE.KDictDisplayH
import HandS.Codes
import PyProof.AutoSeq1
import HandS.Lambda
import HandS.Nested
import HandS.ExcIs
import HandS.ExcValue
import KE.KExcIs
import HandS.ExcField
import HandS.RaiseMore
import HandS.ExcInit
import HandS.Dict
import HandS.MakeKw
import HandS.Head3
import PySem.Challenge.RW_pacerose_k00_errors_of_all_parts
set_option Elab.async false
set_option linter.all false
set_option maxRecDepth 100000
set_option maxHeartbeats 4000000
namespace Lf
open PySem PySem.Spec PyProof.Rows L2

/-! ### data -/
/-- a thing that never changes, known by what is true of it -/
structure OpD where
  at_ : Hp → V → Prop
  mono : ∀ {H H' : Hp} {v : V}, Same H H' → at_ H v → at_ H' v
  ref : ∀ {H : Hp} {v : V}, at_ H v → ∃ a, v = .ref a
inductive D where
  | non | bl (b : Bool) | int (i : Int) | str (x : Str) | lst (xs : List D) | tup (xs : List D) | op (φ : OpD)
abbrev Hq := Hp
/-- the value v stands for the data d in the heap H -/
inductive Rp (H : Hp) : V → D → Prop
  | non : Rp H .non .non
  | bl (b : Bool) : Rp H (.bl b) (.bl b)
  | int (i : Int) : Rp H (.int i) (.int i)
  | str (x : Str) : Rp H (.str x) (.str x)
  | lst {a : Addr} {vs : List V} {ds : List D} : H a = some (.lst vs) → vs.length = ds.length → (∀ (i : Nat) v d, vs[i]? = some v → ds[i]? = some d → Rp H v d) → Rp H (.ref a) (.lst ds)
  | tup {a : Addr} {vs : List V} {ds : List D} : H a = some (.tup vs) → vs.length = ds.length → (∀ (i : Nat) v d, vs[i]? = some v → ds[i]? = some d → Rp H v d) → Rp H (.ref a) (.tup ds)
  | op {v : V} (φ : OpD) : φ.at_ H v → Rp H v (.op φ)
def RpA (H : Hp) (vs : List V) (ds : List D) : Prop := vs.length = ds.length ∧ ∀ (i : Nat) v d, vs[i]? = some v → ds[i]? = some d → Rp H v d
theorem Rp.mono {H H' : Hp} (e : Same H H') {v : V} {d : D} (r : Rp H v d) : Rp H' v d := by
  induction r with
  | non => exact .non
  | bl b => exact .bl b
  | int i => exact .int i
  | str x => exact .str x
  | lst h l _ ih => exact .lst (e _ _ h) l ih
  | tup h l _ ih => exact .tup (e _ _ h) l ih
  | op φ h => exact .op φ (φ.mono e h)
theorem RpA.mono {H H' : Hp} (e : Same H H') {vs : List V} {ds : List D} (r : RpA H vs ds) : RpA H' vs ds := ⟨r.1, fun i v d a b => (r.2 i v d a b).mono e⟩
theorem RpA.nil {H : Hp} : RpA H [] [] := ⟨rfl, fun i v d a _ => by simp at a⟩
theorem RpA.cons {H : Hp} {v : V} {d : D} {vs : List V} {ds : List D} (h : Rp H v d) (r : RpA H vs ds) : RpA H (v :: vs) (d :: ds) := by
  refine ⟨by simp [r.1], fun i w e a b => ?_⟩
  cases i with
  | zero => simp at a b; subst a b; exact h
  | succ i => exact r.2 i w e (by simpa using a) (by simpa using b)
theorem RpA.snoc {H : Hp} {v : V} {d : D} {vs : List V} {ds : List D} (r : RpA H vs ds) (h : Rp H v d) : RpA H (vs ++ [v]) (ds ++ [d]) := by
  refine ⟨by simp [r.1], fun i w e a b => ?_⟩
  by_cases hi : i < vs.length
  · rw [List.getElem?_append_left hi] at a
    rw [List.getElem?_append_left (by rw [← r.1]; exact hi)] at b
    exact r.2 i w e a b
  · have h1 : i = vs.length := by
      have := (List.getElem?_eq_some_iff.mp a).1
      simp at this
      omega
    subst h1
    simp at a
    rw [r.1] at b
    simp at b
    subst a b
    exact h
theorem RpA.at {H : Hp} {vs : List V} {ds : List D} (r : RpA H vs ds) {i : Nat} {v : V} (h : vs[i]? = some v) : ∃ d, ds[i]? = some d ∧ Rp H v d := by
  have hi := (List.getElem?_eq_some_iff.mp h).1
  have h2 : ds[i]? = some (ds[i]'(by rw [← r.1]; exact hi)) := List.getElem?_eq_getElem _
  exact ⟨_, h2, r.2 i v _ h h2⟩
theorem RpA.atD {H : Hp} {vs : List V} {ds : List D} (r : RpA H vs ds) {i : Nat} {d : D} (h : ds[i]? = some d) : ∃ v, vs[i]? = some v ∧ Rp H v d := by
  have hi := (List.getElem?_eq_some_iff.mp h).1
  have h2 : vs[i]? = some (vs[i]'(by rw [r.1]; exact hi)) := List.getElem?_eq_getElem _
  exact ⟨_, h2, r.2 i _ d h2 h⟩
theorem Rp.lstA {H : Hp} {a : Addr} {vs : List V} {ds : List D} (h : H a = some (.lst vs)) (r : RpA H vs ds) : Rp H (.ref a) (.lst ds) := .lst h r.1 r.2
theorem Rp.tupA {H : Hp} {a : Addr} {vs : List V} {ds : List D} (h : H a = some (.tup vs)) (r : RpA H vs ds) : Rp H (.ref a) (.tup ds) := .tup h r.1 r.2
theorem Rp.int_inv {H : Hp} {v : V} {i : Int} (r : Rp H v (.int i)) : v = .int i := by cases r; rfl
theorem Rp.bl_inv {H : Hp} {v : V} {i : Bool} (r : Rp H v (.bl i)) : v = .bl i := by cases r; rfl
theorem Rp.str_inv {H : Hp} {v : V} {i : Str} (r : Rp H v (.str i)) : v = .str i := by cases r; rfl
theorem Rp.non_inv {H : Hp} {v : V} (r : Rp H v .non) : v = .non := by cases r; rfl
theorem Rp.lst_inv {H : Hp} {v : V} {ds : List D} (r : Rp H v (.lst ds)) : ∃ a vs, v = .ref a ∧ H a = some (.lst vs) ∧ RpA H vs ds := by
  cases r with
  | lst h l q => exact ⟨_, _, rfl, h, l, q⟩
theorem Rp.tup_inv {H : Hp} {v : V} {ds : List D} (r : Rp H v (.tup ds)) : ∃ a vs, v = .ref a ∧ H a = some (.tup vs) ∧ RpA H vs ds := by
  cases r with
  | tup h l q => exact ⟨_, _, rfl, h, l, q⟩

/-! ### steps of the heaps: what is data, what is kept -/
structure Stp (Hs Fr Hs' Fr' : Hp) : Prop where
  s : Same Hs Hs'
  f : Same Fr Fr'
  sep : ∀ a, Fr a ≠ none → Hs a = none → Hs' a = none
theorem Stp.refl (Hs Fr : Hp) : Stp Hs Fr Hs Fr := ⟨Same.refl _, Same.refl _, fun _ _ h => h⟩
theorem some_ne {H H' : Hp} (e : Same H H') {a : Addr} (h : H a ≠ none) : H' a ≠ none := by
  cases q : H a with
  | none => exact absurd q h
  | some o => rw [e _ _ q]; exact fun z => by cases z
theorem Stp.trans {Hs Fr H1 F1 H2 F2 : Hp} (a : Stp Hs Fr H1 F1) (b : Stp H1 F1 H2 F2) : Stp Hs Fr H2 F2 :=
  ⟨a.s.trans b.s, a.f.trans b.f, fun x h1 h2 => b.sep x (some_ne a.f h1) (a.sep x h1 h2)⟩
/-- new objects alone -/
structure Gr (Hs Fr H Hs' Fr' H' : Hp) : Prop where
  st : Stp Hs Fr Hs' Fr'
  h : Same H H'
  sf : Same Hs' Fr'
  fh : Same Fr' H'
  out : ∀ a, H a ≠ none → Fr a = none → Fr' a = none
theorem Gr.refl {Hs Fr H : Hp} (sf : Same Hs Fr) (fh : Same Fr H) : Gr Hs Fr H Hs Fr H := ⟨Stp.refl _ _, Same.refl _, sf, fh, fun _ _ h => h⟩
theorem Gr.trans {Hs Fr H H1 F1 G1 H2 F2 G2 : Hp} (a : Gr Hs Fr H H1 F1 G1) (b : Gr H1 F1 G1 H2 F2 G2) : Gr Hs Fr H H2 F2 G2 :=
  ⟨a.st.trans b.st, a.h.trans b.h, b.sf, b.fh, fun x h1 h2 => b.out x (some_ne a.h h1) (a.out x h1 h2)⟩
theorem same_upd {H H' : Hp} {a : Addr} {o : HO} (e : Same H H') (n : H a = none) : Same H (upd H' a o) := fun b u h => by
  rw [upd_ne (ne_of_none h n)]; exact e b u h
theorem same_upd2 {H H' : Hp} {a : Addr} {o : HO} (e : Same H H') : Same (upd H a o) (upd H' a o) := fun b u h => by
  by_cases q : b = a
  · subst q; rw [upd_same] at h ⊢; exact h
  · rw [upd_ne q] at h ⊢; exact e b u h
theorem none_of {H H' : Hp} (e : Same H H') {a : Addr} (n : H' a = none) : H a = none := e.free n
/-- a new object, as data -/
theorem Gr.new {Hs Fr H : Hp} (sf : Same Hs Fr) (fh : Same Fr H) {p : Addr} (n : H p = none) (o : HO) : Gr Hs Fr H (upd Hs p o) (upd Fr p o) (upd H p o) := by
  have nf : Fr p = none := none_of fh n
  have ns : Hs p = none := none_of sf nf
  refine ⟨⟨same_upd (Same.refl _) ns, same_upd (Same.refl _) nf, fun a h1 h2 => ?_⟩, same_upd (Same.refl _) n, same_upd2 sf, same_upd2 fh, fun a h1 h2 => ?_⟩
  · have : a ≠ p := fun z => h1 (z ▸ nf)
    rw [upd_ne this]; exact h2
  · have : a ≠ p := fun z => h1 (z ▸ n)
    rw [upd_ne this]; exact h2

/-! ### environments -/
/-- an object of one's own: At Hs H v fp: v stands for it, its parts stand at fp -/
structure Ow where
  At : Hp → Hp → V → List Addr → Prop
  mono : ∀ {Hs H Hs' H' : Hp} {v : V} {fp : List Addr}, At Hs H v fp → Same Hs Hs' → (∀ a ∈ fp, H' a = H a) → At Hs' H' v fp
  known : ∀ {Hs H : Hp} {v : V} {fp : List Addr}, At Hs H v fp → ∀ a ∈ fp, H a ≠ none
inductive En where
  | d (x : D)
  | l (xs : List D)
  | o (w : Ow)
def En.At : En → Hp → Hp → V → List Addr → Prop
  | .d x, Hs, _, v, fp => Rp Hs v x ∧ fp = []
  | .l xs, Hs, H, v, fp => ∃ q vs, v = .ref q ∧ fp = [q] ∧ H q = some (.lst vs) ∧ RpA Hs vs xs
  | .o w, Hs, H, v, fp => w.At Hs H v fp
theorem En.mono {e : En} {Hs H Hs' H' : Hp} {v : V} {fp : List Addr} (r : e.At Hs H v fp) (s : Same Hs Hs') (k : ∀ a ∈ fp, H' a = H a) : e.At Hs' H' v fp := by
  cases e with
  | d x => exact ⟨r.1.mono s, r.2⟩
  | l xs =>
    obtain ⟨q, vs, e1, e2, e3, e4⟩ := r
    exact ⟨q, vs, e1, e2, by rw [k q (by rw [e2]; simp)]; exact e3, e4.mono s⟩
  | o w => exact w.mono r s k
theorem En.known {e : En} {Hs H : Hp} {v : V} {fp : List Addr} (r : e.At Hs H v fp) : ∀ a ∈ fp, H a ≠ none := by
  cases e with
  | d x => rw [r.2]; intro a h; simp at h
  | l xs =>
    obtain ⟨q, vs, e1, e2, e3, e4⟩ := r
    intro a h
    rw [e2] at h
    simp at h
    subst h
    rw [e3]
    exact fun z => by cases z
  | o w => exact w.known r
abbrev Env := List (Option En)
structure EnvF (Hs Fr H : Hp) (σ : L2.St) (env : Env) (fp : Nat → List Addr) : Prop where
  len : σ.length = env.length
  at_ : ∀ (i : Nat) e, env[i]? = some (some e) → ∃ v, σ[i]? = some (some v) ∧ e.At Hs H v (fp i)
  fr : ∀ (i : Nat) e, env[i]? = some (some e) → ∀ a ∈ fp i, Fr a = none
  dis : ∀ (i j : Nat) e e', i ≠ j → env[i]? = some (some e) → env[j]? = some (some e') → ∀ a ∈ fp i, a ∉ fp j
def EnvR (Hs Fr H : Hp) (σ : L2.St) (env : Env) : Prop := ∃ fp, EnvF Hs Fr H σ env fp
theorem EnvF.gr {Hs Fr H Hs' Fr' H' : Hp} {σ : L2.St} {env : Env} {fp : Nat → List Addr} (r : EnvF Hs Fr H σ env fp) (g : Gr Hs Fr H Hs' Fr' H') : EnvF Hs' Fr' H' σ env fp := by
  refine ⟨r.len, fun i e he => ?_, fun i e he a ha => ?_, r.dis⟩
  · obtain ⟨v, h1, h2⟩ := r.at_ i e he
    refine ⟨v, h1, En.mono h2 g.st.s fun a ha => ?_⟩
    cases q : H a with
    | none => exact absurd q (En.known h2 a ha)
    | some o => exact g.h a o q
  · obtain ⟨v, h1, h2⟩ := r.at_ i e he
    exact g.out a (En.known h2 a ha) (r.fr i e he a ha)
theorem EnvR.gr {Hs Fr H Hs' Fr' H' : Hp} {σ : L2.St} {env : Env} (r : EnvR Hs Fr H σ env) (g : Gr Hs Fr H Hs' Fr' H') : EnvR Hs' Fr' H' σ env := let ⟨fp, r⟩ := r; ⟨fp, r.gr g⟩
theorem EnvR.len {Hs Fr H : Hp} {σ : L2.St} {env : Env} (r : EnvR Hs Fr H σ env) : σ.length = env.length := let ⟨_, r⟩ := r; r.len
theorem EnvR.dat {Hs Fr H : Hp} {σ : L2.St} {env : Env} (r : EnvR Hs Fr H σ env) {i : Nat} {d : D} (h : env[i]? = some (some (.d d))) : ∃ v, σ[i]? = some (some v) ∧ Rp Hs v d := by
  obtain ⟨fp, r⟩ := r
  obtain ⟨v, h1, h2⟩ := r.at_ i _ h
  exact ⟨v, h1, h2.1⟩
/-- a slot gets data -/
theorem EnvF.setD {Hs Fr H : Hp} {σ : L2.St} {env : Env} {fp : Nat → List Addr} (r : EnvF Hs Fr H σ env fp) (i : Nat) {v : V} {d : D} (h : Rp Hs v d) : EnvF Hs Fr H (σ.set i (some v)) (env.set i (some (.d d))) (fun j => if j = i then [] else fp j) := by
  refine ⟨by simp [r.len], fun j e he => ?_, fun j e he a ha => ?_, fun j k e e' hjk h1 h2 a ha => ?_⟩
  · by_cases q : j = i
    · subst q
      have hl : j < env.length := by
        have := (List.getElem?_eq_some_iff.mp he).1
        simpa using this
      rw [List.getElem?_set_self hl] at he
      cases he
      exact ⟨v, List.getElem?_set_self (by rw [r.len]; exact hl), h, by simp⟩
    · rw [List.getElem?_set_ne (Ne.symm q)] at he
      obtain ⟨u, h1, h2⟩ := r.at_ j e he
      exact ⟨u, by rw [List.getElem?_set_ne (Ne.symm q)]; exact h1, by rw [if_neg q]; exact h2⟩
  · by_cases q : j = i
    · rw [if_pos q] at ha; simp at ha
    · rw [if_neg q] at ha
      rw [List.getElem?_set_ne (Ne.symm q)] at he
      exact r.fr j e he a ha
  · by_cases q : j = i
    · rw [if_pos q] at ha; simp at ha
    · rw [if_neg q] at ha
      rw [List.getElem?_set_ne (Ne.symm q)] at h1
      by_cases q2 : k = i
      · rw [if_pos q2]; simp
      · rw [if_neg q2]
        rw [List.getElem?_set_ne (Ne.symm q2)] at h2
        exact r.dis j k e e' hjk h1 h2 a ha
theorem EnvR.setD {Hs Fr H : Hp} {σ : L2.St} {env : Env} (r : EnvR Hs Fr H σ env) (i : Nat) {v : V} {d : D} (h : Rp Hs v d) : EnvR Hs Fr H (σ.set i (some v)) (env.set i (some (.d d))) := let ⟨_, r⟩ := r; ⟨_, r.setD i h⟩
/-- the slots of an environment that say nothing -/
theorem EnvF.weak {Hs Fr H : Hp} {σ σ' : L2.St} {env env' : Env} {fp : Nat → List Addr} (r : EnvF Hs Fr H σ env fp) (hl : σ'.length = env'.length) (h : ∀ (i : Nat) e, env'[i]? = some (some e) → env[i]? = some (some e) ∧ σ'[i]? = σ[i]?) : EnvF Hs Fr H σ' env' fp := by
  refine ⟨hl, fun i e he => ?_, fun i e he => r.fr i e (h i e he).1, fun i j e e' hij h1 h2 => r.dis i j e e' hij (h i e h1).1 (h j e' h2).1⟩
  obtain ⟨v, h1, h2⟩ := r.at_ i e (h i e he).1
  exact ⟨v, by rw [(h i e he).2]; exact h1, h2⟩

/-! ### readings over data -/
abbrev DE := Env → (D → Env → Prop) → Prop
abbrev DT := Env → (Bool → Env → Prop) → Prop
abbrev DA := Env → (List D → Env → Prop) → Prop
class AbsE (te : TE) (de : outParam DE) : Prop where
  run : ∀ (σ : L2.St) (Hs Fr H : Hp) (env : Env) (Q : VK) (C : D → Env → Prop), EnvR Hs Fr H σ env → Same Hs Fr → Same Fr H → de env C →
    (∀ v d env' Hs' Fr' H', EnvR Hs' Fr' H' σ env' → Stp Hs Fr Hs' Fr' → Same Hs' Fr' → Same Fr' H' → Rp Hs' v d → C d env' → Q v H') → te σ H Q
class AbsT (te : TT) (de : outParam DT) : Prop where
  run : ∀ (σ : L2.St) (Hs Fr H : Hp) (env : Env) (Q : Bool → Hp → Prop) (C : Bool → Env → Prop), EnvR Hs Fr H σ env → Same Hs Fr → Same Fr H → de env C →
    (∀ b env' Hs' Fr' H', EnvR Hs' Fr' H' σ env' → Stp Hs Fr Hs' Fr' → Same Hs' Fr' → Same Fr' H' → C b env' → Q b H') → te σ H Q
class AbsA (te : TA) (de : outParam DA) : Prop where
  run : ∀ (σ : L2.St) (Hs Fr H : Hp) (env : Env) (Q : List V → Hp → Prop) (C : List D → Env → Prop), EnvR Hs Fr H σ env → Same Hs Fr → Same Fr H → de env C →
    (∀ vs ds env' Hs' Fr' H', EnvR Hs' Fr' H' σ env' → Stp Hs Fr Hs' Fr' → Same Hs' Fr' → Same Fr' H' → RpA Hs' vs ds → C ds env' → Q vs H') → te σ H Q
/-- a two-place operation on values -/
abbrev DR2 := D → D → (D → Prop) → Prop
class AbsR (r : R2) (dr : outParam DR2) : Prop where
  run : ∀ (Hs Fr H : Hp) (x y : V) (a b : D) (Q : VK) (C : D → Prop), Same Hs Fr → Same Fr H → Rp Hs x a → Rp Hs y b → dr a b C →
    (∀ v d Hs' Fr' H', Gr Hs Fr H Hs' Fr' H' → Rp Hs' v d → C d → Q v H') → r x y H Q
/-- a call on values -/
abbrev DC := List D → (D → Prop) → Prop
class AbsC (r : List V → Hp → VK → Prop) (dr : outParam DC) : Prop where
  run : ∀ (Hs Fr H : Hp) (xs : List V) (as : List D) (Q : VK) (C : D → Prop), Same Hs Fr → Same Fr H → RpA Hs xs as → dr as C →
    (∀ v d Hs' Fr' H', Gr Hs Fr H Hs' Fr' H' → Rp Hs' v d → C d → Q v H') → r xs H Q
/-- a one-place operation -/
class AbsU (r : V → Hp → VK → Prop) (dr : outParam (D → (D → Prop) → Prop)) : Prop where
  run : ∀ (Hs Fr H : Hp) (x : V) (a : D) (Q : VK) (C : D → Prop), Same Hs Fr → Same Fr H → Rp Hs x a → dr a C →
    (∀ v d Hs' Fr' H', Gr Hs Fr H Hs' Fr' H' → Rp Hs' v d → C d → Q v H') → r x H Q

/-! expressions -/
def dVar (i : Nat) : DE := fun env C => ∃ d, env[i]? = some (some (.d d)) ∧ C d env
def dC (d : D) : DE := fun env C => C d env
instance {i : Nat} : AbsE (tVar i) (dVar i) := ⟨fun σ Hs Fr H env Q C r sf fh h k => by
  obtain ⟨d, h1, h2⟩ := h
  obtain ⟨v, e, rp⟩ := r.dat h1
  exact ⟨v, e, k v d env Hs Fr H r (Stp.refl _ _) sf fh rp h2⟩⟩
instance {i : Int} : AbsE (tC (.int i)) (dC (.int i)) := ⟨fun σ Hs Fr H env Q C r sf fh h k => k _ _ env Hs Fr H r (Stp.refl _ _) sf fh (.int i) h⟩
instance {i : Bool} : AbsE (tC (.bl i)) (dC (.bl i)) := ⟨fun σ Hs Fr H env Q C r sf fh h k => k _ _ env Hs Fr H r (Stp.refl _ _) sf fh (.bl i) h⟩
instance {i : Str} : AbsE (tC (.str i)) (dC (.str i)) := ⟨fun σ Hs Fr H env Q C r sf fh h k => k _ _ env Hs Fr H r (Stp.refl _ _) sf fh (.str i) h⟩
instance : AbsE (tC .non) (dC .non) := ⟨fun σ Hs Fr H env Q C r sf fh h k => k _ _ env Hs Fr H r (Stp.refl _ _) sf fh .non h⟩
def dOp (r : DR2) (da db : DE) : DE := fun env C => da env fun x env1 => db env1 fun y env2 => r x y fun z => C z env2
instance {r : R2} {dr : DR2} {ta tb : TE} {da db : DE} [hr : AbsR r dr] [ha : AbsE ta da] [hb : AbsE tb db] : AbsE (tOp r ta tb) (dOp dr da db) := ⟨fun σ Hs Fr H env Q C er sf fh h k => by
  refine ha.run σ Hs Fr H env _ _ er sf fh h fun x a env1 Hs1 Fr1 H1 r1 s1 sf1 fh1 p1 h1 => ?_
  refine hb.run σ Hs1 Fr1 H1 env1 _ _ r1 sf1 fh1 h1 fun y b env2 Hs2 Fr2 H2 r2 s2 sf2 fh2 p2 h2 => ?_
  refine hr.run Hs2 Fr2 H2 x y a b _ _ sf2 fh2 (p1.mono s2.s) p2 h2 fun v d Hs3 Fr3 H3 g p3 h3 => ?_
  exact k v d env2 Hs3 Fr3 H3 (r2.gr g) ((s1.trans s2).trans g.st) g.sf g.fh p3 h3⟩
def dUn (r : D → (D → Prop) → Prop) (da : DE) : DE := fun env C => da env fun x env1 => r x fun z => C z env1
instance {r : V → Hp → VK → Prop} {dr} {ta : TE} {da : DE} [hr : AbsU r dr] [ha : AbsE ta da] : AbsE (tUn r ta) (dUn dr da) := ⟨fun σ Hs Fr H env Q C er sf fh h k => by
  refine ha.run σ Hs Fr H env _ _ er sf fh h fun x a env1 Hs1 Fr1 H1 r1 s1 sf1 fh1 p1 h1 => ?_
  refine hr.run Hs1 Fr1 H1 x a _ _ sf1 fh1 p1 h1 fun v d Hs3 Fr3 H3 g p3 h3 => ?_
  exact k v d env1 Hs3 Fr3 H3 (r1.gr g) (s1.trans g.st) g.sf g.fh p3 h3⟩
def dNil : DA := fun env C => C [] env
def dCons (de : DE) (da : DA) : DA := fun env C => de env fun x env1 => da env1 fun xs env2 => C (x :: xs) env2
instance : AbsA tNil dNil := ⟨fun σ Hs Fr H env Q C r sf fh h k => k [] [] env Hs Fr H r (Stp.refl _ _) sf fh .nil h⟩
instance {te : TE} {ta : TA} {de : DE} {da : DA} [he : AbsE te de] [ha : AbsA ta da] : AbsA (tCons te ta) (dCons de da) := ⟨fun σ Hs Fr H env Q C er sf fh h k => by
  refine he.run σ Hs Fr H env _ _ er sf fh h fun x a env1 Hs1 Fr1 H1 r1 s1 sf1 fh1 p1 h1 => ?_
  refine ha.run σ Hs1 Fr1 H1 env1 _ _ r1 sf1 fh1 h1 fun xs as env2 Hs2 Fr2 H2 r2 s2 sf2 fh2 p2 h2 => ?_
  exact k _ _ env2 Hs2 Fr2 H2 r2 (s1.trans s2) sf2 fh2 (.cons (p1.mono s2.s) p2) h2⟩
def dTup (da : DA) : DE := fun env C => da env fun xs env1 => xs.length ≤ 100000 ∧ C (.tup xs) env1
def dLst (da : DA) : DE := fun env C => da env fun xs env1 => xs.length ≤ 100000 ∧ C (.lst xs) env1
theorem szl {n : Nat} (h : n ≤ 100000) : n ≤ sizeLine := Nat.le_trans h (by decide)
theorem szlt {n : Nat} (h : n < 100000) : n < sizeLine := Nat.lt_of_lt_of_le h (by decide)
instance {ta : TA} {da : DA} [ha : AbsA ta da] : AbsE (tTup ta) (dTup da) := ⟨fun σ Hs Fr H env Q C er sf fh h k => by
  refine ha.run σ Hs Fr H env _ _ er sf fh h fun xs as env1 Hs1 Fr1 H1 r1 s1 sf1 fh1 p1 h1 => ?_
  refine ⟨by rw [p1.1]; exact szl h1.1, fun p hp => ?_⟩
  have g := Gr.new sf1 fh1 hp (.tup xs)
  exact k _ _ env1 _ _ _ (r1.gr g) (s1.trans g.st) g.sf g.fh (.tupA upd_same (p1.mono g.st.s)) h1.2⟩
instance {ta : TA} {da : DA} [ha : AbsA ta da] : AbsE (tLst ta) (dLst da) := ⟨fun σ Hs Fr H env Q C er sf fh h k => by
  refine ha.run σ Hs Fr H env _ _ er sf fh h fun xs as env1 Hs1 Fr1 H1 r1 s1 sf1 fh1 p1 h1 => ?_
  refine ⟨by rw [p1.1]; exact szl h1.1, fun p hp => ?_⟩
  have g := Gr.new sf1 fh1 hp (.lst xs)
  exact k _ _ env1 _ _ _ (r1.gr g) (s1.trans g.st) g.sf g.fh (.lstA upd_same (p1.mono g.st.s)) h1.2⟩
end Lf
set_option Elab.async false
set_option linter.all false
set_option maxRecDepth 100000
set_option maxHeartbeats 4000000
namespace Lf
open PySem PySem.Spec PyProof.Rows L2

/-! tests -/
def dTest (de : DE) : DT := fun env C => de env fun x env1 => ∃ b, x = .bl b ∧ C b env1
instance {te : TE} {de : DE} [h : AbsE te de] : AbsT (tTest te) (dTest de) := ⟨fun σ Hs Fr H env Q C er sf fh hd k => by
  refine h.run σ Hs Fr H env _ _ er sf fh hd fun x a env1 Hs1 Fr1 H1 r1 s1 sf1 fh1 p1 h1 => ?_
  obtain ⟨b, rfl, h1⟩ := h1
  exact ⟨b, p1.bl_inv, k b env1 Hs1 Fr1 H1 r1 s1 sf1 fh1 h1⟩⟩
instance {te : TE} {de : DE} [h : AbsE te de] : AbsT (tB te) (dTest de) := ⟨fun σ Hs Fr H env Q C er sf fh hd k => by
  refine h.run σ Hs Fr H env _ _ er sf fh hd fun x a env1 Hs1 Fr1 H1 r1 s1 sf1 fh1 p1 h1 => ?_
  obtain ⟨b, rfl, h1⟩ := h1
  exact ⟨b, p1.bl_inv, k b env1 Hs1 Fr1 H1 r1 s1 sf1 fh1 h1⟩⟩
def dAnd (a b : DT) : DT := fun env C => a env fun c env1 => if c = true then b env1 C else C false env1
def dOr (a b : DT) : DT := fun env C => a env fun c env1 => if c = true then C true env1 else b env1 C
def dNot (a : DT) : DT := fun env C => a env fun c env1 => C (!c) env1
instance {t u : TT} {dt du : DT} [ht : AbsT t dt] [hu : AbsT u du] : AbsT (tAnd t u) (dAnd dt du) := ⟨fun σ Hs Fr H env Q C er sf fh hd k => by
  refine ht.run σ Hs Fr H env _ _ er sf fh hd fun b env1 Hs1 Fr1 H1 r1 s1 sf1 fh1 h1 => ?_
  cases b with
  | true =>
    refine hu.run σ Hs1 Fr1 H1 env1 _ _ r1 sf1 fh1 h1 fun b env2 Hs2 Fr2 H2 r2 s2 sf2 fh2 h2 => ?_
    exact k b env2 Hs2 Fr2 H2 r2 (s1.trans s2) sf2 fh2 h2
  | false => exact k false env1 Hs1 Fr1 H1 r1 s1 sf1 fh1 h1⟩
instance {t u : TT} {dt du : DT} [ht : AbsT t dt] [hu : AbsT u du] : AbsT (tOr t u) (dOr dt du) := ⟨fun σ Hs Fr H env Q C er sf fh hd k => by
  refine ht.run σ Hs Fr H env _ _ er sf fh hd fun b env1 Hs1 Fr1 H1 r1 s1 sf1 fh1 h1 => ?_
  cases b with
  | false =>
    refine hu.run σ Hs1 Fr1 H1 env1 _ _ r1 sf1 fh1 h1 fun b env2 Hs2 Fr2 H2 r2 s2 sf2 fh2 h2 => ?_
    exact k b env2 Hs2 Fr2 H2 r2 (s1.trans s2) sf2 fh2 h2
  | true => exact k true env1 Hs1 Fr1 H1 r1 s1 sf1 fh1 h1⟩
instance {t : TT} {dt : DT} [ht : AbsT t dt] : AbsT (tNot t) (dNot dt) := ⟨fun σ Hs Fr H env Q C er sf fh hd k => by
  refine ht.run σ Hs Fr H env _ _ er sf fh hd fun b env1 Hs1 Fr1 H1 r1 s1 sf1 fh1 h1 => ?_
  exact k (!b) env1 Hs1 Fr1 H1 r1 s1 sf1 fh1 h1⟩
def dAndV (a b : DE) : DE := fun env C => a env fun x env1 => ∃ c, x = .bl c ∧ if c = true then b env1 C else C (.bl false) env1
def dOrV (a b : DE) : DE := fun env C => a env fun x env1 => ∃ c, x = .bl c ∧ if c = true then C (.bl true) env1 else b env1 C
def dNotV (a : DE) : DE := fun env C => a env fun x env1 => ∃ c, x = .bl c ∧ C (.bl (!c)) env1
instance {t u : TE} {dt du : DE} [ht : AbsE t dt] [hu : AbsE u du] : AbsE (tAndV t u) (dAndV dt du) := ⟨fun σ Hs Fr H env Q C er sf fh hd k => by
  refine ht.run σ Hs Fr H env _ _ er sf fh hd fun x a env1 Hs1 Fr1 H1 r1 s1 sf1 fh1 p1 h1 => ?_
  obtain ⟨b, rfl, h1⟩ := h1
  refine ⟨b, p1.bl_inv, ?_⟩
  cases b with
  | true =>
    refine hu.run σ Hs1 Fr1 H1 env1 _ _ r1 sf1 fh1 h1 fun v d env2 Hs2 Fr2 H2 r2 s2 sf2 fh2 p2 h2 => ?_
    exact k v d env2 Hs2 Fr2 H2 r2 (s1.trans s2) sf2 fh2 p2 h2
  | false => exact k _ _ env1 Hs1 Fr1 H1 r1 s1 sf1 fh1 (.bl false) h1⟩
instance {t u : TE} {dt du : DE} [ht : AbsE t dt] [hu : AbsE u du] : AbsE (tOrV t u) (dOrV dt du) := ⟨fun σ Hs Fr H env Q C er sf fh hd k => by
  refine ht.run σ Hs Fr H env _ _ er sf fh hd fun x a env1 Hs1 Fr1 H1 r1 s1 sf1 fh1 p1 h1 => ?_
  obtain ⟨b, rfl, h1⟩ := h1
  refine ⟨b, p1.bl_inv, ?_⟩
  cases b with
  | false =>
    refine hu.run σ Hs1 Fr1 H1 env1 _ _ r1 sf1 fh1 h1 fun v d env2 Hs2 Fr2 H2 r2 s2 sf2 fh2 p2 h2 => ?_
    exact k v d env2 Hs2 Fr2 H2 r2 (s1.trans s2) sf2 fh2 p2 h2
  | true => exact k _ _ env1 Hs1 Fr1 H1 r1 s1 sf1 fh1 (.bl true) h1⟩
instance {t : TE} {dt : DE} [ht : AbsE t dt] : AbsE (tNotV t) (dNotV dt) := ⟨fun σ Hs Fr H env Q C er sf fh hd k => by
  refine ht.run σ Hs Fr H env _ _ er sf fh hd fun x a env1 Hs1 Fr1 H1 r1 s1 sf1 fh1 p1 h1 => ?_
  obtain ⟨b, rfl, h1⟩ := h1
  exact ⟨b, p1.bl_inv, k _ _ env1 Hs1 Fr1 H1 r1 s1 sf1 fh1 (.bl _) h1⟩⟩
def dIf (t : DT) (a b : DE) : DE := fun env C => t env fun c env1 => if c = true then a env1 C else b env1 C
instance {t : TT} {ta tb : TE} {dt : DT} {da db : DE} [ht : AbsT t dt] [ha : AbsE ta da] [hb : AbsE tb db] : AbsE (tIf t ta tb) (dIf dt da db) := ⟨fun σ Hs Fr H env Q C er sf fh hd k => by
  refine ht.run σ Hs Fr H env _ _ er sf fh hd fun b env1 Hs1 Fr1 H1 r1 s1 sf1 fh1 h1 => ?_
  cases b with
  | true =>
    refine ha.run σ Hs1 Fr1 H1 env1 _ _ r1 sf1 fh1 h1 fun v d env2 Hs2 Fr2 H2 r2 s2 sf2 fh2 p2 h2 => ?_
    exact k v d env2 Hs2 Fr2 H2 r2 (s1.trans s2) sf2 fh2 p2 h2
  | false =>
    refine hb.run σ Hs1 Fr1 H1 env1 _ _ r1 sf1 fh1 h1 fun v d env2 Hs2 Fr2 H2 r2 s2 sf2 fh2 p2 h2 => ?_
    exact k v d env2 Hs2 Fr2 H2 r2 (s1.trans s2) sf2 fh2 p2 h2⟩
def dChain (r r' : DR2) (a b c : DE) : DE := fun env C => a env fun x env1 => b env1 fun y env2 => r x y fun z => ∃ k, z = .bl k ∧ if k = true then c env2 fun w env3 => r' y w fun u => C u env3 else C (.bl false) env2

/-! operators on data -/
def rII (f : Int → Int → Int) : DR2 := fun x y C => ∃ i j, x = .int i ∧ y = .int j ∧ C (.int (f i j))
def rIIc (P : Int → Int → Prop) (f : Int → Int → Int) : DR2 := fun x y C => ∃ i j, x = .int i ∧ y = .int j ∧ P i j ∧ C (.int (f i j))
def rIB (f : Int → Int → Bool) : DR2 := fun x y C => ∃ i j, x = .int i ∧ y = .int j ∧ C (.bl (f i j))
instance {f : Int → Int → Int} : AbsR (rI0 fun i j => .int (f i j)) (rII f) := ⟨fun Hs Fr H x y a b Q C sf fh px py h k => by
  obtain ⟨i, j, rfl, rfl, h⟩ := h
  exact ⟨i, j, px.int_inv, py.int_inv, k _ _ Hs Fr H (Gr.refl sf fh) (.int _) h⟩⟩
instance {P : Int → Int → Prop} {f : Int → Int → Int} : AbsR (rI P fun i j => .int (f i j)) (rIIc P f) := ⟨fun Hs Fr H x y a b Q C sf fh px py h k => by
  obtain ⟨i, j, rfl, rfl, hp, h⟩ := h
  exact ⟨i, j, px.int_inv, py.int_inv, hp, k _ _ Hs Fr H (Gr.refl sf fh) (.int _) h⟩⟩
instance {f : Int → Int → Bool} : AbsR (rI0 fun i j => .bl (f i j)) (rIB f) := ⟨fun Hs Fr H x y a b Q C sf fh px py h k => by
  obtain ⟨i, j, rfl, rfl, h⟩ := h
  exact ⟨i, j, px.int_inv, py.int_inv, k _ _ Hs Fr H (Gr.refl sf fh) (.bl _) h⟩⟩
def dI1 (f : Int → Int) : D → (D → Prop) → Prop := fun x C => ∃ i, x = .int i ∧ C (.int (f i))
instance {f : Int → Int} : AbsU (rU fun i => .int (f i)) (dI1 f) := ⟨fun Hs Fr H x a Q C sf fh px h k => by
  obtain ⟨i, rfl, h⟩ := h
  exact ⟨i, px.int_inv, k _ _ Hs Fr H (Gr.refl sf fh) (.int _) h⟩⟩
/-- is None -/
def D.isN : D → Bool
  | .non => true
  | _ => false
theorem Rp.isN {H : Hp} {v : V} {d : D} (r : Rp H v d) : decide (v = .non) = d.isN := by
  cases r with
  | op φ h =>
    obtain ⟨a, rfl⟩ := φ.ref h
    rfl
  | _ => rfl
def dIsN : DR2 := fun x y C => y = .non ∧ C (.bl x.isN)
def dNotN : DR2 := fun x y C => y = .non ∧ C (.bl (!x.isN))
instance : AbsR rIsN dIsN := ⟨fun Hs Fr H x y a b Q C sf fh px py h k => by
  obtain ⟨rfl, h⟩ := h
  exact ⟨py.non_inv, by rw [px.isN]; exact k _ _ Hs Fr H (Gr.refl sf fh) (.bl _) h⟩⟩
instance : AbsR rNotN dNotN := ⟨fun Hs Fr H x y a b Q C sf fh px py h k => by
  obtain ⟨rfl, h⟩ := h
  exact ⟨py.non_inv, by rw [px.isN]; exact k _ _ Hs Fr H (Gr.refl sf fh) (.bl _) h⟩⟩
/-- is True, is False -/
def dIsB : DR2 := fun x y C => ∃ a b, x = .bl a ∧ y = .bl b ∧ C (.bl (decide (a = b)))
def dNotB : DR2 := fun x y C => ∃ a b, x = .bl a ∧ y = .bl b ∧ C (.bl (!decide (a = b)))
instance : AbsR rIsB dIsB := ⟨fun Hs Fr H x y a b Q C sf fh px py h k => by
  obtain ⟨i, j, rfl, rfl, h⟩ := h
  exact ⟨i, j, px.bl_inv, py.bl_inv, k _ _ Hs Fr H (Gr.refl sf fh) (.bl _) h⟩⟩
instance : AbsR rNotB dNotB := ⟨fun Hs Fr H x y a b Q C sf fh px py h k => by
  obtain ⟨i, j, rfl, rfl, h⟩ := h
  exact ⟨i, j, px.bl_inv, py.bl_inv, k _ _ Hs Fr H (Gr.refl sf fh) (.bl _) h⟩⟩
/-! == of data at any depth -/
mutual
def D.toP : D → PyData
  | .non => .none
  | .bl b => .bool b
  | .int i => .int i
  | .str x => .str x
  | .lst xs => .list (D.toPs xs)
  | .tup xs => .tuple (D.toPs xs)
  | .op _ => .dict []
def D.toPs : List D → List PyData
  | [] => []
  | x :: xs => D.toP x :: D.toPs xs
end
theorem D.toPs_eq : ∀ xs : List D, D.toPs xs = xs.map D.toP
  | [] => by rw [D.toPs]; rfl
  | x :: xs => by rw [D.toPs, D.toPs_eq xs]; rfl
theorem dpAll_of {K : PySem.W.Frag} {H : Hp} : ∀ {vs : List V} {ds : List D}, vs.length = ds.length → (∀ (i : Nat) v d, vs[i]? = some v → ds[i]? = some d → Dp K H v d.toP) → DpAll K H vs (D.toPs ds)
  | [], [], _, _ => by rw [D.toPs]; exact .nil
  | [], _ :: _, h, _ => by simp at h
  | _ :: _, [], h, _ => by simp at h
  | v :: vs, d :: ds, h, f => by
    rw [D.toPs]
    exact .cons (f 0 v d rfl rfl) (dpAll_of (by simpa using h) fun i v' d' a b => f (i + 1) v' d' (by simpa using a) (by simpa using b))
/-- plain data: nothing in it is told by what is true of it -/
def D.pln (d : D) : Prop := d.toP.hasDict = false
theorem pln_parts : ∀ {ds : List D} {i : Nat} {d : D}, PyData.hasDictAll (D.toPs ds) = false → ds[i]? = some d → d.pln
  | [], _, _, _, h => by simp at h
  | x :: xs, i, d, h, e => by
    rw [D.toPs, PyData.hasDictAll, Bool.or_eq_false_iff] at h
    cases i with
    | zero =>
      have e1 : x = d := by simpa using e
      exact e1 ▸ h.1
    | succ i => exact pln_parts h.2 (by simpa using e)
theorem Rp.dp {K : PySem.W.Frag} {H : Hp} {v : V} {d : D} (r : Rp H v d) (hn : d.pln) : Dp K H v d.toP := by
  induction r with
  | non => rw [D.toP]; exact .non
  | bl b => rw [D.toP]; exact .bl b
  | int i => rw [D.toP]; exact .int i
  | str x => rw [D.toP]; exact .str x
  | lst h l _ ih =>
    have hn := hn
    unfold D.pln at hn
    rw [D.toP] at hn ⊢
    rw [PyData.hasDict] at hn
    exact .lst (SqL.of h) (dpAll_of l fun i v d a b => ih i v d a b (pln_parts hn b))
  | tup h l _ ih =>
    have hn := hn
    unfold D.pln at hn
    rw [D.toP] at hn ⊢
    rw [PyData.hasDict] at hn
    exact .tup (SqT.of h) (dpAll_of l fun i v d a b => ih i v d a b (pln_parts hn b))
  | op φ h =>
    unfold D.pln at hn
    rw [D.toP, PyData.hasDict] at hn
    cases hn
def dEq (a b : D) : Bool := PyData.eqv a.toP b.toP
def shp (a : D) : Prop := SeqAt.shaped a.toP = true
theorem shp.pln {a : D} (h : shp a) : a.pln := PyData.hasDict_of_canLay _ (SeqAt.canLay_of_shaped h)
def dEqD : DR2 := fun x y C => shp x ∧ shp y ∧ C (.bl (dEq x y))
def dNeD : DR2 := fun x y C => shp x ∧ shp y ∧ C (.bl (!dEq x y))
theorem Dp.mono {K : PySem.W.Frag} {H H' : Hp} (e : Same H H') {v : V} {d : D} (r : Rp H v d) (hn : d.pln) : Dp K H' v d.toP := (r.mono e).dp hn
instance {K : PySem.W.Frag} : AbsR (rEqD K) dEqD := ⟨fun Hs Fr H x y a b Q C sf fh px py h k => by
  obtain ⟨h1, h2, h⟩ := h
  exact ⟨a.toP, b.toP, (px.mono (sf.trans fh)).dp h1.pln, (py.mono (sf.trans fh)).dp h2.pln, h1, h2, k _ _ Hs Fr H (Gr.refl sf fh) (.bl _) h⟩⟩
instance {K : PySem.W.Frag} : AbsR (rNeD K) dNeD := ⟨fun Hs Fr H x y a b Q C sf fh px py h k => by
  obtain ⟨h1, h2, h⟩ := h
  exact ⟨a.toP, b.toP, (px.mono (sf.trans fh)).dp h1.pln, (py.mono (sf.trans fh)).dp h2.pln, h1, h2, k _ _ Hs Fr H (Gr.refl sf fh) (.bl _) h⟩⟩
/-! items, slices -/
def dIxL : DR2 := fun x y C => ∃ xs i d, x = .lst xs ∧ y = .int i ∧ atI xs i = some d ∧ C d
def dIxT : DR2 := fun x y C => ∃ xs i d, x = .tup xs ∧ y = .int i ∧ atI xs i = some d ∧ C d
theorem RpA.atI {H : Hp} {vs : List V} {ds : List D} (r : RpA H vs ds) {i : Int} {d : D} (h : atI ds i = some d) : ∃ v, atI vs i = some v ∧ Rp H v d := by
  unfold L2.atI at h ⊢
  rw [r.1]
  cases q : ixN ds.length i with
  | none => rw [q] at h; cases h
  | some j =>
    rw [q] at h
    exact r.atD (i := j) h
instance {K : PySem.W.Frag} : AbsR (rIxL K) dIxL := ⟨fun Hs Fr H x y a b Q C sf fh px py h k => by
  obtain ⟨xs, i, d, rfl, rfl, h1, h⟩ := h
  obtain ⟨p, vs, rfl, e, q⟩ := px.lst_inv
  obtain ⟨v, e2, rv⟩ := q.atI h1
  exact ⟨p, vs, i, v, rfl, py.int_inv, SqL.of ((sf.trans fh) _ _ e), e2, k _ _ Hs Fr H (Gr.refl sf fh) rv h⟩⟩
instance {K : PySem.W.Frag} : AbsR (rIxT K) dIxT := ⟨fun Hs Fr H x y a b Q C sf fh px py h k => by
  obtain ⟨xs, i, d, rfl, rfl, h1, h⟩ := h
  obtain ⟨p, vs, rfl, e, q⟩ := px.tup_inv
  obtain ⟨v, e2, rv⟩ := q.atI h1
  exact ⟨p, vs, i, v, rfl, py.int_inv, SqT.of ((sf.trans fh) _ _ e), e2, k _ _ Hs Fr H (Gr.refl sf fh) rv h⟩⟩
/-- xs[i], a list or a tuple -/
def dIx : DR2 := fun x y C => dIxL x y C ∨ dIxT x y C
instance {K : PySem.W.Frag} : AbsR (fun x y H Q => rIxL K x y H Q ∨ rIxT K x y H Q) dIx := ⟨fun Hs Fr H x y a b Q C sf fh px py h k => by
  rcases h with h | h
  · exact .inl (AbsR.run Hs Fr H x y a b Q C sf fh px py h k)
  · exact .inr (AbsR.run Hs Fr H x y a b Q C sf fh px py h k)⟩
/-! calls of built-ins -/
def dCB (r : DC) (da : DA) : DE := fun env C => da env fun xs env1 => r xs fun d => C d env1
instance {r : List V → Hp → VK → Prop} {dr : DC} {ta : TA} {da : DA} [hr : AbsC r dr] [ha : AbsA ta da] : AbsE (tCB r ta) (dCB dr da) := ⟨fun σ Hs Fr H env Q C er sf fh h k => by
  refine ha.run σ Hs Fr H env _ _ er sf fh h fun xs as env1 Hs1 Fr1 H1 r1 s1 sf1 fh1 p1 h1 => ?_
  refine hr.run Hs1 Fr1 H1 xs as _ _ sf1 fh1 p1 h1 fun v d Hs3 Fr3 H3 g p3 h3 => ?_
  exact k v d env1 Hs3 Fr3 H3 (r1.gr g) (s1.trans g.st) g.sf g.fh p3 h3⟩
theorem RpA.one {H : Hp} {vs : List V} {d : D} (r : RpA H vs [d]) : ∃ v, vs = [v] ∧ Rp H v d := by
  obtain ⟨l, f⟩ := r
  match vs, l with
  | [v], _ => exact ⟨v, rfl, f 0 v d rfl rfl⟩
theorem RpA.two {H : Hp} {vs : List V} {d e : D} (r : RpA H vs [d, e]) : ∃ v w, vs = [v, w] ∧ Rp H v d ∧ Rp H w e := by
  obtain ⟨l, f⟩ := r
  match vs, l with
  | [v, w], _ => exact ⟨v, w, rfl, f 0 v d rfl rfl, f 1 w e rfl rfl⟩
/-- len of a list, of a tuple -/
def rLenQ (K : PySem.W.Frag) : List V → Hp → VK → Prop := fun xs H Q => ∃ p ys, xs = [.ref p] ∧ (SqL K H p ys ∨ SqT K H p ys) ∧ Q (.int ys.length) H
theorem cl_len {X : Cx} : CallR X (.builtin "len") (rLenQ X.K) := call_len_seq
def D.items? : D → Option (List D)
  | .lst xs => some xs
  | .tup xs => some xs
  | _ => none
def dLen : DC := fun as C => ∃ a xs, as = [a] ∧ a.items? = some xs ∧ C (.int xs.length)
instance {K : PySem.W.Frag} : AbsC (rLenQ K) dLen := ⟨fun Hs Fr H xs as Q C sf fh px h k => by
  obtain ⟨a, ds, rfl, e, h⟩ := h
  obtain ⟨v, rfl, rv⟩ := px.one
  cases a with
  | lst ys =>
    cases e
    obtain ⟨p, vs, rfl, e, q⟩ := rv.lst_inv
    exact ⟨p, vs, rfl, .inl (SqL.of ((sf.trans fh) _ _ e)), k _ _ Hs Fr H (Gr.refl sf fh) (by rw [q.1]; exact .int _) h⟩
  | tup ys =>
    cases e
    obtain ⟨p, vs, rfl, e, q⟩ := rv.tup_inv
    exact ⟨p, vs, rfl, .inr (SqT.of ((sf.trans fh) _ _ e)), k _ _ Hs Fr H (Gr.refl sf fh) (by rw [q.1]; exact .int _) h⟩
  | _ => cases e⟩
/-- sum of a list of ints -/
theorem RpA.ints {H : Hp} {vs : List V} {ns : List Int} (r : RpA H vs (ns.map D.int)) : vs = ns.map V.int := by
  obtain ⟨l, f⟩ := r
  rw [List.length_map] at l
  apply List.ext_getElem?
  intro i
  by_cases hi : i < vs.length
  · have h1 : vs[i]? = some vs[i] := List.getElem?_eq_getElem hi
    have hn : i < ns.length := by omega
    have h2 : (ns.map D.int)[i]? = some (.int ns[i]) := by simp [hn]
    have := (f i _ _ h1 h2).int_inv
    rw [h1, this]
    simp [hn]
  · have h1 : vs[i]? = none := List.getElem?_eq_none_iff.mpr (by omega)
    rw [h1]
    symm
    simp
    omega
theorem RpA.bls {H : Hp} {vs : List V} {ns : List Bool} (r : RpA H vs (ns.map D.bl)) : vs = ns.map V.bl := by
  obtain ⟨l, f⟩ := r
  rw [List.length_map] at l
  apply List.ext_getElem?
  intro i
  by_cases hi : i < vs.length
  · have h1 : vs[i]? = some vs[i] := List.getElem?_eq_getElem hi
    have hn : i < ns.length := by omega
    have h2 : (ns.map D.bl)[i]? = some (.bl ns[i]) := by simp [hn]
    have := (f i _ _ h1 h2).bl_inv
    rw [h1, this]
    simp [hn]
  · have h1 : vs[i]? = none := List.getElem?_eq_none_iff.mpr (by omega)
    rw [h1]
    symm
    simp
    omega
theorem RpA.ofInts {H : Hp} (ns : List Int) : RpA H (ns.map V.int) (ns.map D.int) := ⟨by simp, fun i v d a b => by
  simp at a b
  obtain ⟨x, h1, rfl⟩ := a
  obtain ⟨y, h2, rfl⟩ := b
  rw [h1] at h2
  cases h2
  exact .int _⟩
def dSum : DC := fun as C => ∃ ns : List Int, as = [.lst (ns.map D.int)] ∧ C (.int ns.sum)
instance {K : PySem.W.Frag} : AbsC (rSum K) dSum := ⟨fun Hs Fr H xs as Q C sf fh px h k => by
  obtain ⟨ns, rfl, h⟩ := h
  obtain ⟨v, rfl, rv⟩ := px.one
  obtain ⟨p, vs, rfl, e, q⟩ := rv.lst_inv
  exact ⟨p, ns, rfl, SqL.of (by rw [← q.ints]; exact (sf.trans fh) _ _ e), k _ _ Hs Fr H (Gr.refl sf fh) (.int _) h⟩⟩
def dAll : DC := fun as C => ∃ bs : List Bool, as = [.lst (bs.map D.bl)] ∧ C (.bl (bs.all id))
def dAny : DC := fun as C => ∃ bs : List Bool, as = [.lst (bs.map D.bl)] ∧ C (.bl (bs.any id))
instance {K : PySem.W.Frag} : AbsC (rAll K) dAll := ⟨fun Hs Fr H xs as Q C sf fh px h k => by
  obtain ⟨ns, rfl, h⟩ := h
  obtain ⟨v, rfl, rv⟩ := px.one
  obtain ⟨p, vs, rfl, e, q⟩ := rv.lst_inv
  exact ⟨p, ns, rfl, SqL.of (by rw [← q.bls]; exact (sf.trans fh) _ _ e), k _ _ Hs Fr H (Gr.refl sf fh) (.bl _) h⟩⟩
instance {K : PySem.W.Frag} : AbsC (rAny K) dAny := ⟨fun Hs Fr H xs as Q C sf fh px h k => by
  obtain ⟨ns, rfl, h⟩ := h
  obtain ⟨v, rfl, rv⟩ := px.one
  obtain ⟨p, vs, rfl, e, q⟩ := rv.lst_inv
  exact ⟨p, ns, rfl, SqL.of (by rw [← q.bls]; exact (sf.trans fh) _ _ e), k _ _ Hs Fr H (Gr.refl sf fh) (.bl _) h⟩⟩
def dMax : DC := fun as C => ∃ ns : List Int, as = [.lst (ns.map D.int)] ∧ 0 < ns.length ∧ ∀ m, m ∈ ns → (∀ y, y ∈ ns → y ≤ m) → C (.int m)
instance {K : PySem.W.Frag} : AbsC (rMax K) dMax := ⟨fun Hs Fr H xs as Q C sf fh px h k => by
  obtain ⟨ns, rfl, hl, h⟩ := h
  obtain ⟨v, rfl, rv⟩ := px.one
  obtain ⟨p, vs, rfl, e, q⟩ := rv.lst_inv
  exact ⟨p, ns, rfl, SqL.of (by rw [← q.ints]; exact (sf.trans fh) _ _ e), hl, fun m h1 h2 => k _ _ Hs Fr H (Gr.refl sf fh) (.int _) (h m h1 h2)⟩⟩
/-- two ints: max, min -/
def rMax2 : List V → Hp → VK → Prop := fun xs H Q => ∃ i j, xs = [.int i, .int j] ∧ Q (.int (if j > i then j else i)) H
def rMin2 : List V → Hp → VK → Prop := fun xs H Q => ∃ i j, xs = [.int i, .int j] ∧ Q (.int (if j < i then j else i)) H
theorem cl_max2 {X : Cx} (hc : X.calm = true) : CallR X (.builtin "max") rMax2 := call_max2 hc
theorem cl_min2 {X : Cx} (hc : X.calm = true) : CallR X (.builtin "min") rMin2 := call_min2 hc
def dMax2 : DC := fun as C => ∃ i j, as = [.int i, .int j] ∧ C (.int (if j > i then j else i))
def dMin2 : DC := fun as C => ∃ i j, as = [.int i, .int j] ∧ C (.int (if j < i then j else i))
instance : AbsC rMax2 dMax2 := ⟨fun Hs Fr H xs as Q C sf fh px h k => by
  obtain ⟨i, j, rfl, h⟩ := h
  obtain ⟨v, w, rfl, rv, rw'⟩ := px.two
  rw [rv.int_inv, rw'.int_inv]
  exact ⟨i, j, rfl, k _ _ Hs Fr H (Gr.refl sf fh) (.int _) h⟩⟩
instance : AbsC rMin2 dMin2 := ⟨fun Hs Fr H xs as Q C sf fh px h k => by
  obtain ⟨i, j, rfl, h⟩ := h
  obtain ⟨v, w, rfl, rv, rw'⟩ := px.two
  rw [rv.int_inv, rw'.int_inv]
  exact ⟨i, j, rfl, k _ _ Hs Fr H (Gr.refl sf fh) (.int _) h⟩⟩
/-- abs -/
def rAbs : List V → Hp → VK → Prop := fun xs H Q => ∃ i, xs = [.int i] ∧ Q (.int (if i < 0 then -i else i)) H
def dAbs : DC := fun as C => ∃ i, as = [.int i] ∧ C (.int (if i < 0 then -i else i))
instance : AbsC rAbs dAbs := ⟨fun Hs Fr H xs as Q C sf fh px h k => by
  obtain ⟨i, rfl, h⟩ := h
  obtain ⟨v, rfl, rv⟩ := px.one
  rw [rv.int_inv]
  exact ⟨i, rfl, k _ _ Hs Fr H (Gr.refl sf fh) (.int _) h⟩⟩
/-- gcd -/
def dGcd : DC := fun as C => ∃ i j, as = [.int i, .int j] ∧ C (.int ((Nat.gcd i.natAbs j.natAbs : Nat) : Int))
instance : AbsC rGcd dGcd := ⟨fun Hs Fr H xs as Q C sf fh px h k => by
  obtain ⟨i, j, rfl, h⟩ := h
  obtain ⟨v, w, rfl, rv, rw'⟩ := px.two
  rw [rv.int_inv, rw'.int_inv]
  exact ⟨i, j, rfl, k _ _ Hs Fr H (Gr.refl sf fh) (.int _) h⟩⟩
/-- int(n) -/
def rInt1 : List V → Hp → VK → Prop := fun xs H Q => (∃ i, xs = [.int i] ∧ Q (.int i) H) ∨ ∃ b, xs = [.bl b] ∧ Q (.int (b2i b)) H
def dInt1 : DC := fun as C => (∃ i, as = [.int i] ∧ C (.int i)) ∨ ∃ b, as = [.bl b] ∧ C (.int (b2i b))
instance : AbsC rInt1 dInt1 := ⟨fun Hs Fr H xs as Q C sf fh px h k => by
  rcases h with ⟨i, rfl, h⟩ | ⟨i, rfl, h⟩
  · obtain ⟨v, rfl, rv⟩ := px.one
    rw [rv.int_inv]
    exact .inl ⟨i, rfl, k _ _ Hs Fr H (Gr.refl sf fh) (.int _) h⟩
  · obtain ⟨v, rfl, rv⟩ := px.one
    rw [rv.bl_inv]
    exact .inr ⟨i, rfl, k _ _ Hs Fr H (Gr.refl sf fh) (.int _) h⟩⟩
/-- list(x), tuple(x) -/
def rListQ (K : PySem.W.Frag) : List V → Hp → VK → Prop := fun xs H Q => ∃ p ys, xs = [.ref p] ∧ (SqL K H p ys ∨ SqT K H p ys) ∧ ∀ l, H l = none → Q (.ref l) (upd H l (.lst ys))
theorem cl_list {X : Cx} : CallR X (.type "list") (rListQ X.K) := call_list_of
def rTupQ (K : PySem.W.Frag) : List V → Hp → VK → Prop := fun xs H Q => ∃ p ys, xs = [.ref p] ∧ ((SqL K H p ys ∧ ∀ l, H l = none → Q (.ref l) (upd H l (.tup ys))) ∨ (SqT K H p ys ∧ Q (.ref p) H))
theorem cl_tuple {X : Cx} : CallR X (.type "tuple") (rTupQ X.K) := call_tuple_of
def dListQ : DC := fun as C => ∃ a xs, as = [a] ∧ a.items? = some xs ∧ C (.lst xs)
def dTupQ : DC := fun as C => ∃ a xs, as = [a] ∧ a.items? = some xs ∧ C (.tup xs)
instance {K : PySem.W.Frag} : AbsC (rListQ K) dListQ := ⟨fun Hs Fr H xs as Q C sf fh px h k => by
  obtain ⟨a, ds, rfl, e, h⟩ := h
  obtain ⟨v, rfl, rv⟩ := px.one
  cases a with
  | lst ys =>
    cases e
    obtain ⟨p, vs, rfl, e, q⟩ := rv.lst_inv
    refine ⟨p, vs, rfl, .inl (SqL.of ((sf.trans fh) _ _ e)), fun l hl => ?_⟩
    have g := Gr.new sf fh hl (.lst vs)
    exact k _ _ _ _ _ g (.lstA upd_same (q.mono g.st.s)) h
  | tup ys =>
    cases e
    obtain ⟨p, vs, rfl, e, q⟩ := rv.tup_inv
    refine ⟨p, vs, rfl, .inr (SqT.of ((sf.trans fh) _ _ e)), fun l hl => ?_⟩
    have g := Gr.new sf fh hl (.lst vs)
    exact k _ _ _ _ _ g (.lstA upd_same (q.mono g.st.s)) h
  | _ => cases e⟩
instance {K : PySem.W.Frag} : AbsC (rTupQ K) dTupQ := ⟨fun Hs Fr H xs as Q C sf fh px h k => by
  obtain ⟨a, ds, rfl, e, h⟩ := h
  obtain ⟨v, rfl, rv⟩ := px.one
  cases a with
  | lst ys =>
    cases e
    obtain ⟨p, vs, rfl, e, q⟩ := rv.lst_inv
    refine ⟨p, vs, rfl, .inl ⟨SqL.of ((sf.trans fh) _ _ e), fun l hl => ?_⟩⟩
    have g := Gr.new sf fh hl (.tup vs)
    exact k _ _ _ _ _ g (.tupA upd_same (q.mono g.st.s)) h
  | tup ys =>
    cases e
    obtain ⟨p, vs, rfl, e, q⟩ := rv.tup_inv
    exact ⟨p, vs, rfl, .inr ⟨SqT.of ((sf.trans fh) _ _ e), k _ _ Hs Fr H (Gr.refl sf fh) (.tupA e q) h⟩⟩
  | _ => cases e⟩
/-- isinstance(x, T), T a built-in class -/
def D.ty : D → String
  | .non => "NoneType"
  | .bl _ => "bool"
  | .int _ => "int"
  | .str _ => "str"
  | .lst _ => "list"
  | .tup _ => "tuple"
  | .op _ => ""
def D.isOp : D → Bool
  | .op _ => true
  | _ => false
/-- what isinstance answers -/
def kitD (d : D) (T : String) : Option Bool := if d.isOp then none else kitB d.ty T
theorem kitD_some {d : D} {T : String} {b : Bool} (h : kitD d T = some b) : d.isOp = false ∧ kitB d.ty T = some b := by
  unfold kitD at h
  split at h
  · cases h
  · rename_i q
    exact ⟨by simpa using q, h⟩
theorem Rp.tyx {K : PySem.W.Frag} {H : Hp} {v : V} {d : D} (r : Rp H v d) (hn : d.isOp = false) : TyX K H v (.type d.ty) := by
  cases r with
  | non => exact .base .non
  | bl b => exact .base (.bl b)
  | int b => exact .base (.int b)
  | str b => exact .base (.str b)
  | lst h _ _ => exact .base (.lst h)
  | tup h _ _ => exact .base (.tup h)
  | op φ h => cases hn
def rIsTyQ (K : PySem.W.Frag) (T : String) : V → Hp → VK → Prop := fun x H Q => rIsi K [x, .ty T] H Q
end Lf
set_option Elab.async false
set_option linter.all false
set_option maxRecDepth 100000
set_option maxHeartbeats 4000000
namespace Lf
open PySem PySem.Spec PyProof.Rows L2 RZ

/-! ### what is walked -/
abbrev DI := Env → (List D → Env → Prop) → Prop
structure Feeds (Hs Fr : Hp) (J : It) (xs : List D) : Prop where
  go : ∀ i H, i < xs.length → Same Fr H → J.go i H
  stop : ∀ i H, i = xs.length → Same Fr H → J.stop i H
  yld : ∀ Hs2 Fr2 H i x H', Same Hs Hs2 → Same Fr Fr2 → Same Hs2 Fr2 → Same Fr2 H → i < xs.length → J.yld i H x H' → ∃ d Hs' Fr', xs[i]? = some d ∧ Gr Hs2 Fr2 H Hs' Fr' H' ∧ Rp Hs' x d
class AbsI (wi : TI) (di : outParam DI) : Prop where
  run : ∀ (σ : L2.St) (Hs Fr H : Hp) (env : Env) (R : It → Hp → Prop) (C : List D → Env → Prop), EnvR Hs Fr H σ env → Same Hs Fr → Same Fr H → di env C →
    (∀ J xs env' Hs' Fr' H', EnvR Hs' Fr' H' σ env' → Stp Hs Fr Hs' Fr' → Same Hs' Fr' → Same Fr' H' → Feeds Hs' Fr' J xs → C xs env' → R J H') → wi σ H R
theorem feeds_l {K : PySem.W.Frag} {Hs Fr : Hp} {a : Addr} {vs : List V} {ds : List D} (sf : Same Hs Fr) (h : Hs a = some (.lst vs)) (q : RpA Hs vs ds) : Feeds Hs Fr (Itl K a) ds := by
  have len := q.1
  refine ⟨fun i H hi fh => ?_, fun i H hi fh => ?_, fun Hs2 Fr2 H i x H' s f sf2 fh hi y => ?_⟩
  · exact ⟨vs, vs[i]'(by omega), SqL.of (fh _ _ (sf _ _ h)), List.getElem?_eq_getElem _⟩
  · exact ⟨vs, SqL.of (fh _ _ (sf _ _ h)), by omega⟩
  · obtain ⟨rfl, y⟩ := y
    have := y vs (SqL.of (fh _ _ (f _ _ (sf _ _ h))))
    obtain ⟨d, hd, rd⟩ := q.at this
    exact ⟨d, Hs2, Fr2, hd, Gr.refl sf2 fh, rd.mono s⟩
theorem feeds_t {K : PySem.W.Frag} {Hs Fr : Hp} {a : Addr} {vs : List V} {ds : List D} (sf : Same Hs Fr) (h : Hs a = some (.tup vs)) (q : RpA Hs vs ds) : Feeds Hs Fr (Itt K a) ds := by
  have len := q.1
  refine ⟨fun i H hi fh => ?_, fun i H hi fh => ?_, fun Hs2 Fr2 H i x H' s f sf2 fh hi y => ?_⟩
  · exact ⟨vs, vs[i]'(by omega), SqT.of (fh _ _ (sf _ _ h)), List.getElem?_eq_getElem _⟩
  · exact ⟨vs, SqT.of (fh _ _ (sf _ _ h)), by omega⟩
  · obtain ⟨rfl, y⟩ := y
    have := y vs (SqT.of (fh _ _ (f _ _ (sf _ _ h))))
    obtain ⟨d, hd, rd⟩ := q.at this
    exact ⟨d, Hs2, Fr2, hd, Gr.refl sf2 fh, rd.mono s⟩
/-- a list or a tuple -/
def iSeq (K : PySem.W.Frag) (tl : TE) : TI := fun σ H R => tl σ H fun x H1 => (∃ a, x = .ref a ∧ (∃ xs, SqL K H1 a xs) ∧ R (Itl K a) H1) ∨ (∃ a, x = .ref a ∧ (∃ xs, SqT K H1 a xs) ∧ R (Itt K a) H1)
theorem pi_seq {X : Cx} {tg l : Expr} {tl : TE} (hl : PE X l tl) : PI X tg l (iSeq X.K tl) :=
  ⟨fun pins s σ H R I0 h0 => thn (hl.run pins s σ H _ I0 h0) fun w t ⟨x, H2, J, rx, c⟩ => by
    rcases c with ⟨a, ea, ⟨xs, sq⟩, r⟩ | ⟨a, ea, ⟨xs, sq⟩, r⟩
    all_goals (subst ea; cases rx)
    · obtain ⟨its, rv, p, hz⟩ := J.list sq
      exact wpAny_pyIter_list p.isList ⟨t.heap.objs.size, [t.heap.objs.size], _, _, H2, rfl, J.kept (t' := t.toks) fun b o e => Heap.get?_push_of_some _ e,
        turn_list a _, ⟨_, Heap.get?_push_size _ rfl, rfl, rfl⟩, fun b hb => by
          have eb : b = t.heap.objs.size := by simpa using hb
          exact eb ▸ J.fpOk (Nat.le_refl _) (J.hok.fresh (Nat.le_refl _)), r⟩
    · obtain ⟨its, rv, p, hz⟩ := J.tuple sq
      exact wpAny_pyIter_tuple (show t.heap.IsTuple a its.toArray from p) ⟨t.heap.objs.size, [t.heap.objs.size], _, _, H2, rfl, J.kept (t' := t.toks) fun b o e => Heap.get?_push_of_some _ e,
        turn_tuple a _, ⟨_, Heap.get?_push_size _ rfl, rfl, rfl⟩, fun b hb => by
          have eb : b = t.heap.objs.size := by simpa using hb
          exact eb ▸ J.fpOk (Nat.le_refl _) (J.hok.fresh (Nat.le_refl _)), r⟩⟩
def diSeq (dl : DE) : DI := fun env C => dl env fun x env1 => ∃ xs, x.items? = some xs ∧ C xs env1
instance {K : PySem.W.Frag} {tl : TE} {dl : DE} [h : AbsE tl dl] : AbsI (iSeq K tl) (diSeq dl) := ⟨fun σ Hs Fr H env R C er sf fh hd k => by
  refine h.run σ Hs Fr H env _ _ er sf fh hd fun x a env1 Hs1 Fr1 H1 r1 s1 sf1 fh1 p1 h1 => ?_
  obtain ⟨xs, e, h1⟩ := h1
  cases a with
  | lst ys =>
    cases e
    obtain ⟨p, vs, rfl, e, q⟩ := p1.lst_inv
    exact .inl ⟨p, rfl, ⟨vs, SqL.of ((sf1.trans fh1) _ _ e)⟩, k _ _ env1 Hs1 Fr1 H1 r1 s1 sf1 fh1 (feeds_l sf1 e q) h1⟩
  | tup ys =>
    cases e
    obtain ⟨p, vs, rfl, e, q⟩ := p1.tup_inv
    exact .inr ⟨p, rfl, ⟨vs, SqT.of ((sf1.trans fh1) _ _ e)⟩, k _ _ env1 Hs1 Fr1 H1 r1 s1 sf1 fh1 (feeds_t sf1 e q) h1⟩
  | _ => cases e⟩
def rngD (lo : Int) (n : Nat) : List D := (List.range n).map fun (i : Nat) => .int (lo + (i : Int))
theorem feeds_r {Hs Fr : Hp} (sf : Same Hs Fr) (lo : Int) (n : Nat) : Feeds Hs Fr (Itr lo n) (rngD lo n) := by
  have len : (rngD lo n).length = n := by simp [rngD]
  refine ⟨fun i H hi fh => ?_, fun i H hi fh => ?_, fun Hs2 Fr2 H i x H' s f sf2 fh hi y => ?_⟩
  · show i < n
    omega
  · show n ≤ i
    omega
  · obtain ⟨rfl, rfl⟩ := y
    refine ⟨.int (lo + i), Hs2, Fr2, ?_, Gr.refl sf2 fh, .int _⟩
    have hi' : i < n := by omega
    simp [rngD, hi']
def diR1 (da : DA) : DI := fun env C => da env fun as env1 => ∃ n : Int, as = [.int n] ∧ n < 2 ^ 62 ∧ -(2 ^ 62) ≤ n ∧ C (rngD 0 n.toNat) env1
def diR2 (da : DA) : DI := fun env C => da env fun as env1 => ∃ a n : Int, as = [.int a, .int n] ∧ (-(2 ^ 62) ≤ a ∧ a < 2 ^ 62 ∧ -(2 ^ 62) ≤ n ∧ n < 2 ^ 62) ∧ C (rngD a (n - a).toNat) env1
instance {ta : TA} {da : DA} [h : AbsA ta da] : AbsI (iRng1 ta) (diR1 da) := ⟨fun σ Hs Fr H env R C er sf fh hd k => by
  refine h.run σ Hs Fr H env _ _ er sf fh hd fun vs as env1 Hs1 Fr1 H1 r1 s1 sf1 fh1 p1 h1 => ?_
  obtain ⟨n, rfl, h2, h3, h1⟩ := h1
  obtain ⟨v, rfl, rv⟩ := p1.one
  rw [rv.int_inv]
  exact ⟨n, rfl, h3, h2, k _ _ env1 Hs1 Fr1 H1 r1 s1 sf1 fh1 (feeds_r sf1 0 n.toNat) h1⟩⟩
instance {ta : TA} {da : DA} [h : AbsA ta da] : AbsI (iRng2 ta) (diR2 da) := ⟨fun σ Hs Fr H env R C er sf fh hd k => by
  refine h.run σ Hs Fr H env _ _ er sf fh hd fun vs as env1 Hs1 Fr1 H1 r1 s1 sf1 fh1 p1 h1 => ?_
  obtain ⟨a, n, rfl, h2, h1⟩ := h1
  obtain ⟨v, w, rfl, rv, rw'⟩ := p1.two
  rw [rv.int_inv, rw'.int_inv]
  exact ⟨a, n, rfl, h2, k _ _ env1 Hs1 Fr1 H1 r1 s1 sf1 fh1 (feeds_r sf1 a _) h1⟩⟩
/-- zip of two lists, two tuples -/
def zipD (xs ys : List D) : List D := List.zipWith (fun x y => .tup [x, y]) xs ys
theorem zipD_at {xs ys : List D} {i : Nat} {x y : D} (h1 : xs[i]? = some x) (h2 : ys[i]? = some y) : (zipD xs ys)[i]? = some (.tup [x, y]) := by
  unfold zipD
  rw [List.getElem?_zipWith, h1, h2]
theorem pair_gr {Hs2 Fr2 H : Hp} (sf2 : Same Hs2 Fr2) (fh : Same Fr2 H) {T : Addr} (hT : H T = none) {x y : V} {dx dy : D} (rx : Rp Hs2 x dx) (ry : Rp Hs2 y dy) :
    Gr Hs2 Fr2 H (upd Hs2 T (.tup [x, y])) (upd Fr2 T (.tup [x, y])) (upd H T (.tup [x, y])) ∧ Rp (upd Hs2 T (.tup [x, y])) (.ref T) (.tup [dx, dy]) := by
  have g := Gr.new sf2 fh hT (.tup [x, y])
  exact ⟨g, .tupA upd_same (.cons (rx.mono g.st.s) (.cons (ry.mono g.st.s) .nil))⟩
theorem feeds_zl {K : PySem.W.Frag} {Hs Fr : Hp} {a b : Addr} {vs ws : List V} {ds es : List D} (sf : Same Hs Fr) (h : Hs a = some (.lst vs)) (q : RpA Hs vs ds) (h2 : Hs b = some (.lst ws)) (q2 : RpA Hs ws es) : Feeds Hs Fr (Itz K a b) (zipD ds es) := by
  have l1 := q.1
  have l2 := q2.1
  have len : (zipD ds es).length = min ds.length es.length := by simp [zipD]
  refine ⟨fun i H hi fh => ?_, fun i H hi fh => ?_, fun Hs2 Fr2 H i x H' s f sf2 fh hi y => ?_⟩
  · exact ⟨vs, ws, vs[i]'(by omega), ws[i]'(by omega), SqL.of (fh _ _ (sf _ _ h)), SqL.of (fh _ _ (sf _ _ h2)), List.getElem?_eq_getElem _, List.getElem?_eq_getElem _⟩
  · exact ⟨vs, ws, SqL.of (fh _ _ (sf _ _ h)), SqL.of (fh _ _ (sf _ _ h2)), by omega⟩
  · obtain ⟨T, x1, y1, rfl, hT, rfl, f1, f2⟩ := y
    obtain ⟨d, hd, rd⟩ := q.at (f1 vs (SqL.of (fh _ _ (f _ _ (sf _ _ h)))))
    obtain ⟨e, he, re⟩ := q2.at (f2 ws (SqL.of (fh _ _ (f _ _ (sf _ _ h2)))))
    obtain ⟨g, r⟩ := pair_gr sf2 fh hT (rd.mono s) (re.mono s)
    exact ⟨.tup [d, e], _, _, zipD_at hd he, g, r⟩
theorem feeds_zt {K : PySem.W.Frag} {Hs Fr : Hp} {a b : Addr} {vs ws : List V} {ds es : List D} (sf : Same Hs Fr) (h : Hs a = some (.tup vs)) (q : RpA Hs vs ds) (h2 : Hs b = some (.tup ws)) (q2 : RpA Hs ws es) : Feeds Hs Fr (ItzT K a b) (zipD ds es) := by
  have l1 := q.1
  have l2 := q2.1
  have len : (zipD ds es).length = min ds.length es.length := by simp [zipD]
  refine ⟨fun i H hi fh => ?_, fun i H hi fh => ?_, fun Hs2 Fr2 H i x H' s f sf2 fh hi y => ?_⟩
  · exact ⟨vs, ws, vs[i]'(by omega), ws[i]'(by omega), SqT.of (fh _ _ (sf _ _ h)), SqT.of (fh _ _ (sf _ _ h2)), List.getElem?_eq_getElem _, List.getElem?_eq_getElem _⟩
  · exact ⟨vs, ws, SqT.of (fh _ _ (sf _ _ h)), SqT.of (fh _ _ (sf _ _ h2)), by omega⟩
  · obtain ⟨T, x1, y1, rfl, hT, rfl, f1, f2⟩ := y
    obtain ⟨d, hd, rd⟩ := q.at (f1 vs (SqT.of (fh _ _ (f _ _ (sf _ _ h)))))
    obtain ⟨e, he, re⟩ := q2.at (f2 ws (SqT.of (fh _ _ (f _ _ (sf _ _ h2)))))
    obtain ⟨g, r⟩ := pair_gr sf2 fh hT (rd.mono s) (re.mono s)
    exact ⟨.tup [d, e], _, _, zipD_at hd he, g, r⟩
def diZip (da : DA) : DI := fun env C => da env fun as env1 => ∃ xs ys, (as = [.lst xs, .lst ys] ∨ as = [.tup xs, .tup ys]) ∧ C (zipD xs ys) env1
instance {K : PySem.W.Frag} {ta : TA} {da : DA} [h : AbsA ta da] : AbsI (iZipA K ta) (diZip da) := ⟨fun σ Hs Fr H env R C er sf fh hd k => by
  refine h.run σ Hs Fr H env _ _ er sf fh hd fun vs as env1 Hs1 Fr1 H1 r1 s1 sf1 fh1 p1 h1 => ?_
  obtain ⟨xs, ys, e, h1⟩ := h1
  rcases e with rfl | rfl
  · obtain ⟨v, w, rfl, rv, rw'⟩ := p1.two
    obtain ⟨a, us, rfl, ha, qa⟩ := rv.lst_inv
    obtain ⟨b, ws, rfl, hb, qb⟩ := rw'.lst_inv
    exact ⟨a, b, us, ws, rfl, .inl ⟨SqL.of ((sf1.trans fh1) _ _ ha), SqL.of ((sf1.trans fh1) _ _ hb), k _ _ env1 Hs1 Fr1 H1 r1 s1 sf1 fh1 (feeds_zl sf1 ha qa hb qb) h1⟩⟩
  · obtain ⟨v, w, rfl, rv, rw'⟩ := p1.two
    obtain ⟨a, us, rfl, ha, qa⟩ := rv.tup_inv
    obtain ⟨b, ws, rfl, hb, qb⟩ := rw'.tup_inv
    exact ⟨a, b, us, ws, rfl, .inr ⟨SqT.of ((sf1.trans fh1) _ _ ha), SqT.of ((sf1.trans fh1) _ _ hb), k _ _ env1 Hs1 Fr1 H1 r1 s1 sf1 fh1 (feeds_zt sf1 ha qa hb qb) h1⟩⟩⟩
def enumD (xs : List D) : List D := xs.mapIdx fun i x => .tup [.int (i : Nat), x]
theorem enumD_len (xs : List D) : (enumD xs).length = xs.length := by simp [enumD]
theorem enumD_at {xs : List D} {i : Nat} {x : D} (h : xs[i]? = some x) : (enumD xs)[i]? = some (.tup [.int (i : Nat), x]) := by
  unfold enumD
  rw [List.getElem?_mapIdx, h]
  rfl
theorem feeds_el {K : PySem.W.Frag} {Hs Fr : Hp} {a : Addr} {vs : List V} {ds : List D} (sf : Same Hs Fr) (h : Hs a = some (.lst vs)) (q : RpA Hs vs ds) : Feeds Hs Fr (Ite K a) (enumD ds) := by
  have l1 := q.1
  have len := enumD_len ds
  refine ⟨fun i H hi fh => ?_, fun i H hi fh => ?_, fun Hs2 Fr2 H i x H' s f sf2 fh hi y => ?_⟩
  · exact ⟨vs, vs[i]'(by omega), SqL.of (fh _ _ (sf _ _ h)), List.getElem?_eq_getElem _⟩
  · exact ⟨vs, SqL.of (fh _ _ (sf _ _ h)), by omega⟩
  · obtain ⟨T, x1, rfl, hT, rfl, f1⟩ := y
    obtain ⟨d, hd, rd⟩ := q.at (f1 vs (SqL.of (fh _ _ (f _ _ (sf _ _ h)))))
    obtain ⟨g, r⟩ := pair_gr sf2 fh hT (Rp.int (H := Hs2) ((i : Nat) : Int)) (rd.mono s)
    exact ⟨_, _, _, enumD_at hd, g, r⟩
def diEnum (da : DA) : DI := fun env C => da env fun as env1 => ∃ xs, as = [.lst xs] ∧ C (enumD xs) env1
instance {K : PySem.W.Frag} {ta : TA} {da : DA} [h : AbsA ta da] : AbsI (iEnum K ta) (diEnum da) := ⟨fun σ Hs Fr H env R C er sf fh hd k => by
  refine h.run σ Hs Fr H env _ _ er sf fh hd fun vs as env1 Hs1 Fr1 H1 r1 s1 sf1 fh1 p1 h1 => ?_
  obtain ⟨xs, rfl, h1⟩ := h1
  obtain ⟨v, rfl, rv⟩ := p1.one
  obtain ⟨a, us, rfl, ha, qa⟩ := rv.lst_inv
  exact ⟨a, us, rfl, SqL.of ((sf1.trans fh1) _ _ ha), k _ _ env1 Hs1 Fr1 H1 r1 s1 sf1 fh1 (feeds_el sf1 ha qa) h1⟩⟩

/-! ### targets -/
abbrev DG := D → Env → (Env → Prop) → Prop
def free (env : Env) (i : Nat) : Bool := match env[i]? with
  | some (some (.o _)) => false
  | some _ => true
  | none => false
class AbsG (g : TG) (dg : outParam DG) (js : outParam (List Nat)) : Prop where
  run : ∀ (v : V) (d : D) (σ : L2.St) (Hs Fr H : Hp) (env : Env) (Q : L2.St → Hp → Prop) (C : Env → Prop), EnvR Hs Fr H σ env → Same Hs Fr → Same Fr H → Rp Hs v d → dg d env C →
    (∀ σ' env', EnvR Hs Fr H σ' env' → (∀ k, k ∉ js → σ'[k]? = σ[k]? ∧ env'[k]? = env[k]?) → (∀ k ∈ js, free env k = true) → σ'.length = σ.length → C env' → Q σ' H) → g v σ H Q
class AbsGs (g : TGs) (dg : outParam (List D → Env → (Env → Prop) → Prop)) (js : outParam (List Nat)) : Prop where
  run : ∀ (v : List V) (d : List D) (σ : L2.St) (Hs Fr H : Hp) (env : Env) (Q : L2.St → Hp → Prop) (C : Env → Prop), EnvR Hs Fr H σ env → Same Hs Fr → Same Fr H → RpA Hs v d → dg d env C →
    (∀ σ' env', EnvR Hs Fr H σ' env' → (∀ k, k ∉ js → σ'[k]? = σ[k]? ∧ env'[k]? = env[k]?) → (∀ k ∈ js, free env k = true) → σ'.length = σ.length → C env' → Q σ' H) → g v σ H Q
def dgN (i : Nat) : DG := fun d env C => free env i = true ∧ C (env.set i (some (.d d)))
instance {i : Nat} : AbsG (gName i) (dgN i) [i] := ⟨fun v d σ Hs Fr H env Q C er sf fh rp h k => by
  obtain ⟨h1, h⟩ := h
  refine k _ _ (er.setD i rp) (fun j hj => ?_) (fun j hj => ?_) (by simp) h
  · have : i ≠ j := fun z => hj (by simp [z])
    exact ⟨List.getElem?_set_ne this, List.getElem?_set_ne this⟩
  · have e : j = i := by simpa using hj
    rw [e]; exact h1⟩
def dgNil : List D → Env → (Env → Prop) → Prop := fun ds env C => ds = [] ∧ C env
def dgCons (g : DG) (gs : List D → Env → (Env → Prop) → Prop) : List D → Env → (Env → Prop) → Prop := fun ds env C => ∃ d r, ds = d :: r ∧ g d env fun env1 => gs r env1 C
theorem free_mono {env env1 : Env} {js : List Nat} (h : ∀ k, k ∉ js → env1[k]? = env[k]?) (hf : ∀ k ∈ js, free env k = true) {k : Nat} (h1 : free env1 k = true) : free env k = true := by
  by_cases q : k ∈ js
  · exact hf k q
  · unfold free at h1 ⊢
    rw [← h k q]; exact h1
instance : AbsGs gNil dgNil [] := ⟨fun v d σ Hs Fr H env Q C er sf fh rp h k => by
  obtain ⟨rfl, h⟩ := h
  have : v = [] := by
    have := rp.1
    simpa using this
  exact ⟨this, k σ env er (fun _ _ => ⟨rfl, rfl⟩) (fun _ z => by simp at z) rfl h⟩⟩
instance {g : TG} {gs : TGs} {dg dgs} {js ks : List Nat} [a : AbsG g dg js] [b : AbsGs gs dgs ks] : AbsGs (gCons g gs) (dgCons dg dgs) (js ++ ks) := ⟨fun v d σ Hs Fr H env Q C er sf fh rp h k => by
  obtain ⟨x, r, rfl, h⟩ := h
  match v, rp with
  | y :: w, rp =>
    have rx : Rp Hs y x := rp.2 0 y x rfl rfl
    have rr : RpA Hs w r := ⟨by have := rp.1; simpa using this, fun i v d a b => rp.2 (i + 1) v d (by simpa using a) (by simpa using b)⟩
    refine ⟨y, w, rfl, a.run y x σ Hs Fr H env _ _ er sf fh rx h fun σ1 env1 er1 k1 f1 l1 h1 => ?_⟩
    refine b.run w r σ1 Hs Fr H env1 _ _ er1 sf fh rr h1 fun σ2 env2 er2 k2 f2 l2 h2 => ?_
    refine k σ2 env2 er2 (fun j hj => ?_) (fun j hj => ?_) (l2.trans l1) h2
    · have h1 : j ∉ js := fun z => hj (by simp [z])
      have h2 : j ∉ ks := fun z => hj (by simp [z])
      exact ⟨(k2 j h2).1.trans (k1 j h1).1, (k2 j h2).2.trans (k1 j h1).2⟩
    · rcases List.mem_append.mp hj with z | z
      · exact f1 j z
      · exact free_mono (fun q hq => (k1 q hq).2) f1 (f2 j z)⟩
def dgTup (n : Nat) (gs : List D → Env → (Env → Prop) → Prop) : DG := fun d env C => ∃ xs, d = .tup xs ∧ xs.length = n ∧ gs xs env C
instance {K : PySem.W.Frag} {n : Nat} {gs : TGs} {dgs} {js : List Nat} [a : AbsGs gs dgs js] : AbsG (gTup K n gs) (dgTup n dgs) js := ⟨fun v d σ Hs Fr H env Q C er sf fh rp h k => by
  obtain ⟨xs, rfl, hl, h⟩ := h
  obtain ⟨p, vs, rfl, e, q⟩ := rp.tup_inv
  exact ⟨p, vs, rfl, SqT.of ((sf.trans fh) _ _ e), by rw [q.1]; exact hl, a.run vs xs σ Hs Fr H env Q C er sf fh q h k⟩⟩

/-! ### comprehensions -/
def wipeE (env : Env) : List Nat → Env
  | [] => env
  | v :: vs => (wipeE env vs).set v none
theorem wipeE_len (env : Env) : ∀ vs, (wipeE env vs).length = env.length
  | [] => rfl
  | v :: vs => by unfold wipeE; rw [List.length_set, wipeE_len env vs]
theorem wipe_at {σ : L2.St} : ∀ {vs : List Nat} {i : Nat}, i ∉ vs → (wipe σ vs)[i]? = σ[i]?
  | [], i, _ => rfl
  | v :: vs, i, h => by
    unfold wipe
    rw [List.getElem?_set_ne (fun z => h (by simp [z])), wipe_at (fun z => h (by simp [z]))]
theorem wipe_in {σ : L2.St} : ∀ {vs : List Nat} {i : Nat}, i ∈ vs → i < σ.length → (wipe σ vs)[i]? = some none
  | [], i, h, _ => by simp at h
  | v :: vs, i, h, hl => by
    unfold wipe
    by_cases q : v = i
    · subst q
      exact List.getElem?_set_self (by rw [wipe_length]; exact hl)
    · rw [List.getElem?_set_ne q]
      exact wipe_in (by rcases List.mem_cons.mp h with z | z; exact absurd z.symm q; exact z) hl
theorem wipeE_at {σ : Env} : ∀ {vs : List Nat} {i : Nat}, i ∉ vs → (wipeE σ vs)[i]? = σ[i]?
  | [], i, _ => rfl
  | v :: vs, i, h => by
    unfold wipeE
    rw [List.getElem?_set_ne (fun z => h (by simp [z])), wipeE_at (fun z => h (by simp [z]))]
theorem wipeE_in {σ : Env} : ∀ {vs : List Nat} {i : Nat}, i ∈ vs → i < σ.length → (wipeE σ vs)[i]? = some none
  | [], i, h, _ => by simp at h
  | v :: vs, i, h, hl => by
    unfold wipeE
    by_cases q : v = i
    · subst q
      exact List.getElem?_set_self (by rw [wipeE_len]; exact hl)
    · rw [List.getElem?_set_ne q]
      exact wipeE_in (by rcases List.mem_cons.mp h with z | z; exact absurd z.symm q; exact z) hl
theorem wipe_ext {σ σ' : L2.St} {vs : List Nat} (hl : σ'.length = σ.length) (h : ∀ k, k ∉ vs → σ'[k]? = σ[k]?) : wipe σ' vs = wipe σ vs := by
  apply List.ext_getElem?
  intro i
  by_cases q : i ∈ vs
  · by_cases r : i < σ.length
    · rw [wipe_in q r, wipe_in q (by omega)]
    · rw [List.getElem?_eq_none (by rw [wipe_length]; omega), List.getElem?_eq_none (by rw [wipe_length]; omega)]
  · rw [wipe_at q, wipe_at q, h i q]
/-- no object of one's own at these slots -/
def NoOwn (env : Env) (vs : List Nat) : Prop := ∀ k ∈ vs, ∀ e, env[k]? = some (some e) → ∃ d, e = .d d
def noOwnB (env : Env) (vs : List Nat) : Bool := vs.all fun k => match env[k]? with
  | some (some (.l _)) => false
  | some (some (.o _)) => false
  | _ => true
theorem noOwn_of {env : Env} {vs : List Nat} (h : noOwnB env vs = true) : NoOwn env vs := fun k hk e he => by
  have := List.all_eq_true.mp h k hk
  rw [he] at this
  cases e with
  | d x => exact ⟨x, rfl⟩
  | l _ => cases this
  | o _ => cases this
theorem EnvF.merge {Hs Fr H : Hp} {σ σ2 : L2.St} {env env2 : Env} {fp : Nat → List Addr} {vs : List Nat} (r : EnvF Hs Fr H σ2 env2 fp) (hl : σ.length = env.length)
    (h : ∀ k, k ∉ vs → env2[k]? = env[k]? ∧ σ2[k]? = σ[k]?) (hv : ∀ k ∈ vs, ∀ e, env[k]? = some (some e) → ∃ d v, e = .d d ∧ σ[k]? = some (some v) ∧ Rp Hs v d) : EnvF Hs Fr H σ env (fun k => if k ∈ vs then [] else fp k) := by
  refine ⟨hl, fun i e he => ?_, fun i e he a ha => ?_, fun i j e e' hij h1 h2 a ha => ?_⟩
  · by_cases q : i ∈ vs
    · obtain ⟨d, v, rfl, h1, h2⟩ := hv i q e he
      exact ⟨v, h1, h2, by simp [q]⟩
    · obtain ⟨v, h1, h2⟩ := r.at_ i e (by rw [(h i q).1]; exact he)
      exact ⟨v, by rw [← (h i q).2]; exact h1, by simp only [q, if_false]; exact h2⟩
  · by_cases q : i ∈ vs
    · simp [q] at ha
    · simp only [q, if_false] at ha
      exact r.fr i e (by rw [(h i q).1]; exact he) a ha
  · by_cases q : i ∈ vs
    · simp [q] at ha
    · simp only [q, if_false] at ha
      by_cases q2 : j ∈ vs
      · simp [q2]
      · simp only [q2, if_false]
        exact r.dis i j e e' hij (by rw [(h i q).1]; exact h1) (by rw [(h j q2).1]; exact h2) a ha
class AbsN (te : TE) (dn : outParam DA) : Prop where
  run : ∀ (σ : L2.St) (Hs Fr H : Hp) (env : Env) (Q : VK) (C : List D → Env → Prop), EnvR Hs Fr H σ env → Same Hs Fr → Same Fr H → dn env C →
    (∀ p vs ds env' Hs' Fr' H' Fe, EnvR Hs' Fe H' σ env' → Stp Hs Fr Hs' Fr' → Same Hs' Fr' → Same Fr' Fe → Same Fe H' → (∀ a, a ≠ p → Fe a = Fr' a) → Fr' p = none → Fe p = some (.lst vs) → RpA Hs' vs ds → C ds env' → Q (.ref p) H') → te σ H Q
def dLcN (di : DI) (dg : DG) (js : List Nat) (dt : DT) (de : DE) (vs : List Nat) : DA := fun env C => (∀ j ∈ js, j ∈ vs) ∧ di env fun xs env1 => xs.length ≤ 100000 ∧ noOwnB env1 vs = true ∧ ∃ W : Nat → List D → Prop, W 0 [] ∧ ∀ i acc, acc.length ≤ i → W i acc →
  (∀ x, xs[i]? = some x → dg x (wipeE env1 vs) fun env2 => dt env2 fun b env3 => if b = true then de env3 fun y env4 => env4 = env2 ∧ W (i + 1) (acc ++ [y]) else env3 = env2 ∧ W (i + 1) acc) ∧ (i = xs.length → C acc env1)
/-- the state in a comprehension's loop -/
structure LcI (Hs1 Fr1 : Hp) (σ : L2.St) (env1 : Env) (p : Addr) (W : Nat → List D → Prop) (i : Nat) (H : Hp) (acc : List D) (vacc : List V) (Hs Fe : Hp) : Prop where
  ss : Same Hs1 Hs
  ff : Same Fr1 Fe
  sep : ∀ a, Fr1 a ≠ none → Hs1 a = none → Hs a = none
  se : Same Hs Fe
  np : Hs p = none
  fp : Fe p = some (.lst vacc)
  eh : Same Fe H
  er : EnvR Hs Fe H σ env1
  ra : RpA Hs vacc acc
  la : acc.length ≤ i
  w : W i acc
theorem EnvF.frz {Hs Fr H Hs' Fr' H' : Hp} {σ : L2.St} {env : Env} {fp : Nat → List Addr} {p : Addr} (r : EnvF Hs Fr H σ env fp) (s : Same Hs Hs') (hp : ∀ (i : Nat) e, env[i]? = some (some e) → p ∉ fp i) (h : ∀ a, a ≠ p → H' a = H a) (f : ∀ a, a ≠ p → Fr a = none → Fr' a = none) : EnvF Hs' Fr' H' σ env fp := by
  refine ⟨r.len, fun i e he => ?_, fun i e he a ha => ?_, r.dis⟩
  · obtain ⟨v, h1, h2⟩ := r.at_ i e he
    exact ⟨v, h1, En.mono h2 s fun a ha => h a fun z => hp i e he (z ▸ ha)⟩
  · exact f a (fun z => hp i e he (z ▸ ha)) (r.fr i e he a ha)
theorem EnvF.not {Hs Fr H : Hp} {σ : L2.St} {env : Env} {fp : Nat → List Addr} {p : Addr} (r : EnvF Hs Fr H σ env fp) (h : Fr p ≠ none ∨ H p = none) : ∀ (i : Nat) e, env[i]? = some (some e) → p ∉ fp i := fun i e he hm => by
  rcases h with h | h
  · exact h (r.fr i e he p hm)
  · obtain ⟨v, h1, h2⟩ := r.at_ i e he
    exact En.known h2 p hm h
theorem ne_some {H : Hp} {p : Addr} {o : HO} (h : H p = some o) : H p ≠ none := by rw [h]; exact fun z => by cases z
instance lcN {wi : TI} {g : TG} {tt : TT} {te : TE} {vs : List Nat} {di dg js dt de} [hi : AbsI wi di] [hg : AbsG g dg js] [ht : AbsT tt dt] [he : AbsE te de] : AbsN (tLc wi g tt te vs) (dLcN di dg js dt de vs) := ⟨fun σ Hs Fr H env Q C er sf fh hd k => by
  obtain ⟨hjs, hd⟩ := hd
  refine hi.run σ Hs Fr H env _ _ er sf fh hd fun J xs env1 Hs1 Fr1 H1 r1 s1 sf1 fh1 fd h1 => ?_
  obtain ⟨hlen, hno, W, w0, hw⟩ := h1
  have hno := noOwn_of hno
  intro p hp
  have fp1 : Fr1 p = none := none_of fh1 hp
  have sp1 : Hs1 p = none := none_of sf1 fp1
  refine ⟨fun i m H' => m = xs.length - i ∧ i ≤ xs.length ∧ ∃ acc vacc Hs' Fe, LcI Hs1 Fr1 σ env1 p W i H' acc vacc Hs' Fe, ⟨xs.length, by simp, Nat.zero_le _, [], [], Hs1, upd Fr1 p (.lst []), ?_⟩, ?_⟩
  · obtain ⟨fpf, rf⟩ := r1
    refine ⟨Same.refl _, same_upd (Same.refl _) fp1, fun a _ h => h, same_upd sf1 sp1, sp1, upd_same, same_upd2 fh1, ⟨fpf, rf.frz (Same.refl _) (rf.not (.inr hp)) (fun a ha => upd_ne ha) (fun a ha h => by rw [upd_ne ha]; exact h)⟩, .nil, Nat.le_refl _, w0⟩
  · rintro i m H' ⟨rfl, hi', acc, vacc, Hs', Fe, L⟩
    have feed : Same Fr1 H' := L.ff.trans L.eh
    obtain ⟨hstep, hend⟩ := hw i acc L.la L.w
    by_cases hlt : i < xs.length
    · refine .inr ⟨fd.go i H' hlt feed, fun H'' => ∃ acc vacc Hs'' Fe', LcI Hs1 Fr1 σ env1 p W (i + 1) H'' acc vacc Hs'' Fe', fun H'' ⟨acc', vacc', Hs'', Fe', L'⟩ => ⟨xs.length - (i + 1), by omega, rfl, hlt, acc', vacc', Hs'', Fe', L'⟩, fun x H2 hy => ?_⟩
      obtain ⟨d, Hs2, Fr2, hxd, gr, rx⟩ := fd.yld Hs' Fe H' i x H2 L.ss L.ff L.se L.eh hlt hy
      have er2 : EnvR Hs2 Fr2 H2 σ env1 := L.er.gr gr
      have erw : EnvR Hs2 Fr2 H2 (wipe σ vs) (wipeE env1 vs) := by
        obtain ⟨fpf, rf⟩ := er2
        refine ⟨fpf, rf.weak (by rw [wipe_length, wipeE_len]; exact rf.len) fun j e hj => ?_⟩
        have hjv : j ∉ vs := fun z => by
          by_cases q : j < env1.length
          · rw [wipeE_in z q] at hj; cases hj
          · rw [List.getElem?_eq_none (by rw [wipeE_len]; omega)] at hj; cases hj
        rw [wipeE_at hjv] at hj
        exact ⟨hj, wipe_at hjv⟩
      refine hg.run x d (wipe σ vs) Hs2 Fr2 H2 (wipeE env1 vs) _ _ erw gr.sf gr.fh rx (hstep d hxd) fun σ2 env2 er3 k3 f3 l3 h3 => ?_
      have l3' : σ2.length = σ.length := l3.trans (wipe_length _ _)
      have off : ∀ k, k ∉ vs → env2[k]? = env1[k]? ∧ σ2[k]? = σ[k]? := fun q hq => by
        have hqj : q ∉ js := fun z => hq (hjs q z)
        exact ⟨(k3 q hqj).2.trans (wipeE_at hq), (k3 q hqj).1.trans (wipe_at hq)⟩
      refine ⟨wipe_ext l3' fun q hq => (off q hq).2, ?_⟩
      -- back to the whole environment
      have back : ∀ {Hs5 Fr5 H5 : Hp}, Same Hs2 Hs5 → EnvR Hs5 Fr5 H5 σ2 env2 → EnvR Hs5 Fr5 H5 σ env1 := fun {Hs5 Fr5 H5} s5 e5 => by
        obtain ⟨fpf, rf⟩ := e5
        refine ⟨_, rf.merge (vs := vs) er2.len off fun q hq e hqe => ?_⟩
        obtain ⟨d', rfl⟩ := hno q hq e hqe
        obtain ⟨v', h1, h2⟩ := er2.dat hqe
        exact ⟨d', v', rfl, h1, h2.mono s5⟩
      have hp2 : Fr2 p = some (.lst vacc) := gr.st.f _ _ L.fp
      refine ht.run σ2 Hs2 Fr2 H2 env2 _ _ er3 gr.sf gr.fh h3 fun b env3 Hs3 Fr3 H3 r3 st3 sf3 fh3 hb => ?_
      have hp3 : Fr3 p = some (.lst vacc) := st3.f _ _ hp2
      have np2 : Hs2 p = none := gr.st.sep p (ne_some L.fp) L.np
      have np3 : Hs3 p = none := st3.sep p (ne_some hp2) np2
      cases b with
      | false =>
        obtain ⟨rfl, hw2⟩ := hb
        refine ⟨acc, vacc, Hs3, Fr3, (L.ss.trans gr.st.s).trans st3.s, (L.ff.trans gr.st.f).trans st3.f, fun a h1 h2 => ?_, sf3, np3, hp3, fh3, back st3.s r3, L.ra.mono (gr.st.s.trans st3.s), Nat.le_succ_of_le L.la, hw2⟩
        exact st3.sep a (some_ne (L.ff.trans gr.st.f) h1) (gr.st.sep a (some_ne L.ff h1) (L.sep a h1 h2))
      | true =>
        refine he.run σ2 Hs3 Fr3 H3 env3 _ _ r3 sf3 fh3 hb fun y e env4 Hs4 Fr4 H4 r4 st4 sf4 fh4 ry hc => ?_
        obtain ⟨rfl, hw2⟩ := hc
        have hp4 : Fr4 p = some (.lst vacc) := st4.f _ _ hp3
        have np4 : Hs4 p = none := st4.sep p (ne_some hp3) np3
        refine ⟨vacc, fh4 _ _ hp4, ?_, acc ++ [e], vacc ++ [y], Hs4, upd Fr4 p (.lst (vacc ++ [y])), ?_⟩
        · rw [L.ra.1]; exact szlt (by have := L.la; omega)
        have ras := L.ra.mono ((gr.st.s.trans st3.s).trans st4.s)
        obtain ⟨fpf, rf⟩ := back (st3.s.trans st4.s) r4
        refine ⟨((L.ss.trans gr.st.s).trans st3.s).trans st4.s, fun a o ha => ?_, fun a h1 h2 => ?_, fun a o ha => ?_, np4, upd_same, same_upd2 fh4, ⟨fpf, rf.frz (Same.refl _) (rf.not (.inl (ne_some hp4))) (fun a ha => upd_ne ha) (fun a ha h => by rw [upd_ne ha]; exact h)⟩, ras.snoc ry, ?_, hw2⟩
        · rw [upd_ne (fun z => by rw [z, fp1] at ha; cases ha)]
          exact st4.f _ _ (st3.f _ _ (gr.st.f _ _ (L.ff a o ha)))
        · exact st4.sep a (some_ne ((L.ff.trans gr.st.f).trans st3.f) h1) (st3.sep a (some_ne (L.ff.trans gr.st.f) h1) (gr.st.sep a (some_ne L.ff h1) (L.sep a h1 h2)))
        · rw [upd_ne (fun z => by rw [z, np4] at ha; cases ha)]
          exact sf4 a o ha
        · rw [List.length_append]
          have := L.la
          simp
          omega
    · have e : i = xs.length := by omega
      refine .inl ⟨fd.stop i H' (by omega) feed, ?_⟩
      have ff' : Same Fr1 (fun a => if a = p then none else Fe a) := fun a o ha => by
        have : a ≠ p := fun z => by rw [z, fp1] at ha; cases ha
        show (if a = p then none else Fe a) = some o
        rw [if_neg this]; exact L.ff a o ha
      have sf' : Same Hs' (fun a => if a = p then none else Fe a) := fun a o ha => by
        have : a ≠ p := fun z => by rw [z, L.np] at ha; cases ha
        show (if a = p then none else Fe a) = some o
        rw [if_neg this]; exact L.se a o ha
      have fe' : Same (fun a => if a = p then none else Fe a) Fe := fun a o ha => by
        by_cases q : a = p
        · have ha' : (if a = p then none else Fe a) = some o := ha
          rw [if_pos q] at ha'; cases ha'
        · have ha' : (if a = p then none else Fe a) = some o := ha
          rw [if_neg q] at ha'; exact ha'
      refine k p vacc acc env1 Hs' (fun a => if a = p then none else Fe a) H' Fe L.er (s1.trans ⟨L.ss, ff', L.sep⟩) sf' fe' L.eh (fun a ha => ?_) ?_ L.fp L.ra (hend e)
      · show Fe a = if a = p then none else Fe a
        rw [if_neg ha]
      · show (if p = p then none else Fe p) = none
        rw [if_pos rfl]⟩
/-- a new list, taken as data -/
def dOfN (dn : DA) : DE := fun env C => dn env fun xs env1 => C (.lst xs) env1
theorem absE_of_N {te : TE} {dn : DA} (h : AbsN te dn) : AbsE te (dOfN dn) := ⟨fun σ Hs Fr H env Q C er sf fh hd k => by
  refine h.run σ Hs Fr H env _ _ er sf fh hd fun p vs ds env1 Hs1 Fr1 H1 Fe r1 s1 sf1 fe eh off fp1 ep ra hc => ?_
  have sp1 : Hs1 p = none := none_of sf1 fp1
  have se : Same (upd Hs1 p (.lst vs)) Fe := fun a o ha => by
    by_cases q : a = p
    · rw [q, upd_same] at ha
      rw [q, ep]; exact ha
    · rw [upd_ne q] at ha
      exact fe _ _ (sf1 _ _ ha)
  have ss : Same Hs1 (upd Hs1 p (.lst vs)) := same_upd (Same.refl _) sp1
  obtain ⟨fpf, rf⟩ := r1
  refine k (.ref p) (.lst ds) env1 (upd Hs1 p (.lst vs)) Fe H1 ⟨fpf, rf.frz ss (rf.not (.inl (ne_some ep))) (fun _ _ => rfl) (fun _ _ h => h)⟩ ?_ se eh (.lstA upd_same (ra.mono ss)) hc
  refine ⟨s1.s.trans ss, s1.f.trans fe, fun a h1 h2 => ?_⟩
  have : a ≠ p := fun z => by
    have := some_ne s1.f h1
    rw [z] at this
    exact this fp1
  rw [upd_ne this]
  exact s1.sep a h1 h2⟩
instance {wi : TI} {g : TG} {tt : TT} {te : TE} {vs : List Nat} {di dg js dt de} [hi : AbsI wi di] [hg : AbsG g dg js] [ht : AbsT tt dt] [he : AbsE te de] : AbsE (tLc wi g tt te vs) (dOfN (dLcN di dg js dt de vs)) := absE_of_N (lcN)
def dYes : DT := fun env C => C true env
instance : AbsT tYes dYes := ⟨fun σ Hs Fr H env Q C er sf fh hd k => k true env Hs Fr H er (Stp.refl _ _) sf fh hd⟩
end Lf
set_option Elab.async false
set_option linter.all false
set_option maxRecDepth 100000
set_option maxHeartbeats 4000000
namespace Lf
open PySem PySem.Spec PyProof.Rows L2 RZ

/-! ### statements -/
structure DEnds where
  nx : Env → Prop
  rt : D → Env → Prop
  bk : Env → Prop := fun _ => False
  ct : Env → Prop := fun _ => False
abbrev DS := Env → DEnds → Prop
/-- the slots of objects of one's own hold what they held -/
def Kp (σ : L2.St) (env : Env) (σ' : L2.St) (env' : Env) : Prop := ∀ (i : Nat) (w : Ow), env[i]? = some (some (.o w)) → σ'[i]? = σ[i]? ∧ ∃ w', env'[i]? = some (some (.o w'))
theorem Kp.refl (σ : L2.St) (env : Env) : Kp σ env σ env := fun i w h => ⟨rfl, w, h⟩
theorem Kp.trans {σ σ1 σ2 : L2.St} {env env1 env2 : Env} (a : Kp σ env σ1 env1) (b : Kp σ1 env1 σ2 env2) : Kp σ env σ2 env2 := fun i w h => by
  obtain ⟨h1, w1, h2⟩ := a i w h
  obtain ⟨h3, w2, h4⟩ := b i w1 h2
  exact ⟨h3.trans h1, w2, h4⟩
/-- an expression keeps them -/
def KpE (env env' : Env) : Prop := ∀ (i : Nat) (w : Ow), env[i]? = some (some (.o w)) → ∃ w', env'[i]? = some (some (.o w'))
class AbsS (ts : TS) (ds : outParam DS) : Prop where
  run : ∀ (σ : L2.St) (Hs Fr H : Hp) (env : Env) (D : Ends) (E : DEnds), EnvR Hs Fr H σ env → Same Hs Fr → Same Fr H → ds env E →
    (∀ σ' env' Hs' Fr' H', EnvR Hs' Fr' H' σ' env' → Stp Hs Fr Hs' Fr' → Same Hs' Fr' → Same Fr' H' → Kp σ env σ' env' → E.nx env' → D.nx σ' H') →
    (∀ v d σ' env' Hs' Fr' H', EnvR Hs' Fr' H' σ' env' → Stp Hs Fr Hs' Fr' → Same Hs' Fr' → Same Fr' H' → Kp σ env σ' env' → Rp Hs' v d → E.rt d env' → D.rt v H') →
    (∀ σ' env' Hs' Fr' H', EnvR Hs' Fr' H' σ' env' → Stp Hs Fr Hs' Fr' → Same Hs' Fr' → Same Fr' H' → Kp σ env σ' env' → E.bk env' → D.bk σ' H') →
    (∀ σ' env' Hs' Fr' H', EnvR Hs' Fr' H' σ' env' → Stp Hs Fr Hs' Fr' → Same Hs' Fr' → Same Fr' H' → Kp σ env σ' env' → E.ct env' → D.ct σ' H') → ts D σ H
/-- what an expression makes of the environment: the slots of objects stay such -/
def keepE (env env' : Env) : Prop := ∀ (i : Nat) (w : Ow), env[i]? = some (some (.o w)) → ∃ w', env'[i]? = some (some (.o w'))
def dNext : DS := fun env E => E.nx env
def dSeq (a b : DS) : DS := fun env E => a env { E with nx := fun env1 => b env1 E }
def dRet (de : DE) : DS := fun env E => de env fun d env1 => keepE env env1 ∧ E.rt d env1
def dRetN : DS := fun env E => E.rt .non env
def dBrk : DS := fun env E => E.bk env
def dCnt : DS := fun env E => E.ct env
def dNever : DS := fun _ _ => False
def dIfS (t : DT) (a b : DS) : DS := fun env E => t env fun c env1 => keepE env env1 ∧ if c = true then a env1 E else b env1 E
def dAsg (de : DE) (dg : DG) : DS := fun env E => de env fun x env1 => keepE env env1 ∧ dg x env1 E.nx
def dDrop (de : DE) : DS := fun env E => de env fun _ env1 => keepE env env1 ∧ E.nx env1
instance : AbsS tNext dNext := ⟨fun σ Hs Fr H env D E er sf fh h kn _ _ _ => kn σ env Hs Fr H er (Stp.refl _ _) sf fh (Kp.refl _ _) h⟩
instance : AbsS tBreak dBrk := ⟨fun σ Hs Fr H env D E er sf fh h _ _ kb _ => kb σ env Hs Fr H er (Stp.refl _ _) sf fh (Kp.refl _ _) h⟩
instance : AbsS tCont dCnt := ⟨fun σ Hs Fr H env D E er sf fh h _ _ _ kc => kc σ env Hs Fr H er (Stp.refl _ _) sf fh (Kp.refl _ _) h⟩
instance : AbsS tNever dNever := ⟨fun σ Hs Fr H env D E er sf fh h _ _ _ _ => h⟩
instance : AbsS tRetN dRetN := ⟨fun σ Hs Fr H env D E er sf fh h _ kr _ _ => kr .non .non σ env Hs Fr H er (Stp.refl _ _) sf fh (Kp.refl _ _) .non h⟩
instance {t u : TS} {a b : DS} [ht : AbsS t a] [hu : AbsS u b] : AbsS (tSeq t u) (dSeq a b) := ⟨fun σ Hs Fr H env D E er sf fh h kn kr kb kc => by
  refine ht.run σ Hs Fr H env { D with nx := u D } _ er sf fh h (fun σ1 env1 Hs1 Fr1 H1 r1 s1 sf1 fh1 p1 h1 => ?_) kr kb kc
  refine hu.run σ1 Hs1 Fr1 H1 env1 D E r1 sf1 fh1 h1 ?_ ?_ ?_ ?_
  · exact fun σ2 env2 Hs2 Fr2 H2 r2 s2 sf2 fh2 p2 h2 => kn σ2 env2 Hs2 Fr2 H2 r2 (s1.trans s2) sf2 fh2 (p1.trans p2) h2
  · exact fun v d σ2 env2 Hs2 Fr2 H2 r2 s2 sf2 fh2 p2 rv h2 => kr v d σ2 env2 Hs2 Fr2 H2 r2 (s1.trans s2) sf2 fh2 (p1.trans p2) rv h2
  · exact fun σ2 env2 Hs2 Fr2 H2 r2 s2 sf2 fh2 p2 h2 => kb σ2 env2 Hs2 Fr2 H2 r2 (s1.trans s2) sf2 fh2 (p1.trans p2) h2
  · exact fun σ2 env2 Hs2 Fr2 H2 r2 s2 sf2 fh2 p2 h2 => kc σ2 env2 Hs2 Fr2 H2 r2 (s1.trans s2) sf2 fh2 (p1.trans p2) h2⟩
theorem Kp.ofE {σ : L2.St} {env env1 : Env} (h : keepE env env1) : Kp σ env σ env1 := fun i w hi => ⟨rfl, h i w hi⟩
instance {te : TE} {de : DE} [he : AbsE te de] : AbsS (tRet te) (dRet de) := ⟨fun σ Hs Fr H env D E er sf fh h _ kr _ _ => by
  refine he.run σ Hs Fr H env _ _ er sf fh h fun v d env1 Hs1 Fr1 H1 r1 s1 sf1 fh1 rv h1 => ?_
  exact kr v d σ env1 Hs1 Fr1 H1 r1 s1 sf1 fh1 (.ofE h1.1) rv h1.2⟩
instance {te : TE} {de : DE} [he : AbsE te de] : AbsS (tDrop te) (dDrop de) := ⟨fun σ Hs Fr H env D E er sf fh h kn _ _ _ => by
  refine he.run σ Hs Fr H env _ _ er sf fh h fun v d env1 Hs1 Fr1 H1 r1 s1 sf1 fh1 rv h1 => ?_
  exact kn σ env1 Hs1 Fr1 H1 r1 s1 sf1 fh1 (.ofE h1.1) h1.2⟩
instance {t : TT} {tu tw : TS} {dt : DT} {a b : DS} [ht : AbsT t dt] [hu : AbsS tu a] [hw : AbsS tw b] : AbsS (tIfS t tu tw) (dIfS dt a b) := ⟨fun σ Hs Fr H env D E er sf fh h kn kr kb kc => by
  refine ht.run σ Hs Fr H env _ _ er sf fh h fun c env1 Hs1 Fr1 H1 r1 s1 sf1 fh1 h1 => ?_
  obtain ⟨ke, h1⟩ := h1
  have p1 : Kp σ env σ env1 := .ofE ke
  cases c with
  | true =>
    refine hu.run σ Hs1 Fr1 H1 env1 D E r1 sf1 fh1 h1 ?_ ?_ ?_ ?_
    · exact fun σ2 env2 Hs2 Fr2 H2 r2 s2 sf2 fh2 p2 h2 => kn σ2 env2 Hs2 Fr2 H2 r2 (s1.trans s2) sf2 fh2 (p1.trans p2) h2
    · exact fun v d σ2 env2 Hs2 Fr2 H2 r2 s2 sf2 fh2 p2 rv h2 => kr v d σ2 env2 Hs2 Fr2 H2 r2 (s1.trans s2) sf2 fh2 (p1.trans p2) rv h2
    · exact fun σ2 env2 Hs2 Fr2 H2 r2 s2 sf2 fh2 p2 h2 => kb σ2 env2 Hs2 Fr2 H2 r2 (s1.trans s2) sf2 fh2 (p1.trans p2) h2
    · exact fun σ2 env2 Hs2 Fr2 H2 r2 s2 sf2 fh2 p2 h2 => kc σ2 env2 Hs2 Fr2 H2 r2 (s1.trans s2) sf2 fh2 (p1.trans p2) h2
  | false =>
    refine hw.run σ Hs1 Fr1 H1 env1 D E r1 sf1 fh1 h1 ?_ ?_ ?_ ?_
    · exact fun σ2 env2 Hs2 Fr2 H2 r2 s2 sf2 fh2 p2 h2 => kn σ2 env2 Hs2 Fr2 H2 r2 (s1.trans s2) sf2 fh2 (p1.trans p2) h2
    · exact fun v d σ2 env2 Hs2 Fr2 H2 r2 s2 sf2 fh2 p2 rv h2 => kr v d σ2 env2 Hs2 Fr2 H2 r2 (s1.trans s2) sf2 fh2 (p1.trans p2) rv h2
    · exact fun σ2 env2 Hs2 Fr2 H2 r2 s2 sf2 fh2 p2 h2 => kb σ2 env2 Hs2 Fr2 H2 r2 (s1.trans s2) sf2 fh2 (p1.trans p2) h2
    · exact fun σ2 env2 Hs2 Fr2 H2 r2 s2 sf2 fh2 p2 h2 => kc σ2 env2 Hs2 Fr2 H2 r2 (s1.trans s2) sf2 fh2 (p1.trans p2) h2⟩
/-- what a target's slots leave of the objects -/
theorem Kp.ofG {σ σ' : L2.St} {env env' : Env} {js : List Nat} (k : ∀ q, q ∉ js → σ'[q]? = σ[q]? ∧ env'[q]? = env[q]?) (f : ∀ q ∈ js, free env q = true) : Kp σ env σ' env' := fun i w h => by
  have hi : i ∉ js := fun z => by
    have := f i z
    unfold free at this
    rw [h] at this
    cases this
  exact ⟨(k i hi).1, w, by rw [(k i hi).2]; exact h⟩
instance {te : TE} {de : DE} {g : TG} {dg js} [he : AbsE te de] [hg : AbsG g dg js] : AbsS (tAsg te g) (dAsg de dg) := ⟨fun σ Hs Fr H env D E er sf fh h kn _ _ _ => by
  refine he.run σ Hs Fr H env _ _ er sf fh h fun v d env1 Hs1 Fr1 H1 r1 s1 sf1 fh1 rv h1 => ?_
  refine hg.run v d σ Hs1 Fr1 H1 env1 _ _ r1 sf1 fh1 rv h1.2 fun σ2 env2 r2 k2 f2 l2 h2 => ?_
  exact kn σ2 env2 Hs1 Fr1 H1 r2 s1 sf1 fh1 ((Kp.ofE h1.1).trans (.ofG k2 f2)) h2⟩
/-- a, b = e1, e2 -/
def dPar (i j : Nat) (da : DA) : DS := fun env E => da env fun ds env1 => keepE env env1 ∧ ∃ x y, ds = [x, y] ∧ free env1 i = true ∧ free env1 j = true ∧ E.nx ((env1.set i (some (.d x))).set j (some (.d y)))
theorem Kp.set {σ : L2.St} {env : Env} {i : Nat} (v : Option V) (e : Option En) (f : free env i = true) : Kp σ env (σ.set i v) (env.set i e) := .ofG (js := [i]) (fun q hq => by
    have : i ≠ q := fun z => hq (by simp [z])
    exact ⟨List.getElem?_set_ne this, List.getElem?_set_ne this⟩) (fun q hq => by
    have e : q = i := by simpa using hq
    rw [e]; exact f)
theorem free_set {env : Env} {i j : Nat} {d : D} (h : free env j = true) : free (env.set i (some (.d d))) j = true := by
  unfold free at h ⊢
  by_cases q : i = j
  · subst q
    cases r : env[i]? with
    | none => rw [r] at h; cases h
    | some x =>
      have hl := (List.getElem?_eq_some_iff.mp r).1
      rw [List.getElem?_set_self hl]
  · rw [List.getElem?_set_ne q]; exact h
instance {i j : Nat} {ta : TA} {da : DA} [ha : AbsA ta da] : AbsS (tPar i j ta) (dPar i j da) := ⟨fun σ Hs Fr H env D E er sf fh h kn _ _ _ => by
  refine ha.run σ Hs Fr H env _ _ er sf fh h fun vs ds env1 Hs1 Fr1 H1 r1 s1 sf1 fh1 ra h1 => ?_
  obtain ⟨ke, x, y, rfl, f1, f2, h1⟩ := h1
  obtain ⟨v, w, rfl, rv, rw'⟩ := ra.two
  exact ⟨v, w, rfl, kn _ _ Hs1 Fr1 H1 ((r1.setD i rv).setD j rw') s1 sf1 fh1 (((Kp.ofE ke).trans (.set _ _ f1)).trans (.set _ _ (free_set f2))) h1⟩⟩
/-- x += e (ints) -/
def dAug (i : Nat) (de : DE) (f : Int → Int → Int) : DS := fun env E => ∃ a : Int, env[i]? = some (some (.d (.int a))) ∧ de env fun y env1 => ∃ b : Int, y = .int b ∧ keepE env env1 ∧ free env1 i = true ∧ E.nx (env1.set i (some (.d (.int (f a b)))))
instance {i : Nat} {te : TE} {f : Int → Int → Int} {de : DE} [he : AbsE te de] : AbsS (tAug i te (ipI f)) (dAug i de f) := ⟨fun σ Hs Fr H env D E er sf fh h kn _ _ _ => by
  obtain ⟨a, ha, h⟩ := h
  obtain ⟨v, hv, rv⟩ := er.dat ha
  refine ⟨v, hv, he.run σ Hs Fr H env _ _ er sf fh h fun y d env1 Hs1 Fr1 H1 r1 s1 sf1 fh1 ry h1 => ?_⟩
  obtain ⟨b, rfl, ke, f1, h1⟩ := h1
  exact ⟨a, b, rv.int_inv, ry.int_inv, kn _ _ Hs1 Fr1 H1 (r1.setD i (.int _)) s1 sf1 fh1 ((Kp.ofE ke).trans (.set _ _ f1)) h1⟩⟩
/-- for -/
def dFor (di : DI) (dg : DG) (b : DS) : DS := fun env E => di env fun xs env1 => keepE env env1 ∧ ∃ W : Nat → Env → Prop, W 0 env1 ∧ ∀ i e, W i e →
  (∀ x, xs[i]? = some x → dg x e fun e2 => b e2 { nx := W (i + 1), ct := W (i + 1), bk := E.nx, rt := E.rt }) ∧ (i = xs.length → E.nx e)
instance {wi : TI} {g : TG} {tb : TS} {di dg js b} [hi : AbsI wi di] [hg : AbsG g dg js] [hb : AbsS tb b] : AbsS (tFor wi g tb) (dFor di dg b) := ⟨fun σ Hs Fr H env D E er sf fh h kn kr kb kc => by
  refine hi.run σ Hs Fr H env _ _ er sf fh h fun J xs env1 Hs1 Fr1 H1 r1 s1 sf1 fh1 fd h1 => ?_
  obtain ⟨ke, W, w0, hw⟩ := h1
  have p1 : Kp σ env σ env1 := .ofE ke
  refine ⟨fun i m σ' H' => m = xs.length - i ∧ i ≤ xs.length ∧ ∃ e Hs' Fr', EnvR Hs' Fr' H' σ' e ∧ Stp Hs1 Fr1 Hs' Fr' ∧ Same Hs' Fr' ∧ Same Fr' H' ∧ Kp σ env σ' e ∧ W i e, ⟨xs.length, by simp, Nat.zero_le _, env1, Hs1, Fr1, r1, Stp.refl _ _, sf1, fh1, p1, w0⟩, ?_⟩
  rintro i m σ' H' ⟨rfl, hi', e, Hs', Fr', r', s', sf', fh', p', wi⟩
  obtain ⟨hstep, hend⟩ := hw i e wi
  by_cases hlt : i < xs.length
  · refine .inr ⟨fd.go i H' hlt (s'.f.trans fh'), fun σ'' H'' => ∃ e Hs'' Fr'', EnvR Hs'' Fr'' H'' σ'' e ∧ Stp Hs1 Fr1 Hs'' Fr'' ∧ Same Hs'' Fr'' ∧ Same Fr'' H'' ∧ Kp σ env σ'' e ∧ W (i + 1) e, fun σ'' H'' hN => ⟨xs.length - (i + 1), by omega, rfl, hlt, hN⟩, fun x H2 hy => ?_⟩
    obtain ⟨d, Hs2, Fr2, hxd, gr, rx⟩ := fd.yld Hs' Fr' H' i x H2 s'.s s'.f sf' fh' hlt hy
    refine hg.run x d σ' Hs2 Fr2 H2 e _ _ (r'.gr gr) gr.sf gr.fh rx (hstep d hxd) fun σ3 e3 r3 k3 f3 l3 h3 => ?_
    have s3 : Stp Hs1 Fr1 Hs2 Fr2 := s'.trans gr.st
    have p3 : Kp σ env σ3 e3 := p'.trans (.ofG k3 f3)
    refine hb.run σ3 Hs2 Fr2 H2 e3 _ _ r3 gr.sf gr.fh h3 ?_ ?_ ?_ ?_
    · exact fun σ4 e4 Hs4 Fr4 H4 r4 s4 sf4 fh4 p4 h4 => ⟨e4, Hs4, Fr4, r4, s3.trans s4, sf4, fh4, p3.trans p4, h4⟩
    · exact fun v d σ4 e4 Hs4 Fr4 H4 r4 s4 sf4 fh4 p4 rv h4 => kr v d σ4 e4 Hs4 Fr4 H4 r4 (s1.trans (s3.trans s4)) sf4 fh4 (p3.trans p4) rv h4
    · exact fun σ4 e4 Hs4 Fr4 H4 r4 s4 sf4 fh4 p4 h4 => kn σ4 e4 Hs4 Fr4 H4 r4 (s1.trans (s3.trans s4)) sf4 fh4 (p3.trans p4) h4
    · exact fun σ4 e4 Hs4 Fr4 H4 r4 s4 sf4 fh4 p4 h4 => ⟨e4, Hs4, Fr4, r4, s3.trans s4, sf4, fh4, p3.trans p4, h4⟩
  · exact .inl ⟨fd.stop i H' (by omega) (s'.f.trans fh'), kn σ' e Hs' Fr' H' r' (s1.trans s') sf' fh' p' (hend (by omega))⟩⟩
/-- while -/
def dWhile (t : DT) (b : DS) : DS := fun env E => ∃ W : Nat → Env → Prop, (∃ m, W m env) ∧ ∀ m e, W m e →
  t e fun c e1 => keepE e e1 ∧ if c = true then b e1 { nx := fun e2 => ∃ m', m' < m ∧ W m' e2, ct := fun e2 => ∃ m', m' < m ∧ W m' e2, bk := E.nx, rt := E.rt } else E.nx e1
theorem tWhile_eq (c : TT) (tb : TS) : tWhile c tb = fun D σ H => ∃ W : Nat → L2.St → Hp → Prop, (∃ m, W m σ H) ∧ ∀ m σ H, W m σ H → c σ H fun b H1 => if b = true then ∃ N : L2.St → Hp → Prop, (∀ σ' H', N σ' H' → ∃ m', m' < m ∧ W m' σ' H') ∧ tb { D with nx := N, ct := N, bk := D.nx } σ H1 else D.nx σ H1 := rfl
instance {t : TT} {tb : TS} {dt b} [ht : AbsT t dt] [hb : AbsS tb b] : AbsS (tWhile t tb) (dWhile dt b) := ⟨fun σ Hs Fr H env D E er sf fh h kn kr kb kc => by
  obtain ⟨W, ⟨m0, w0⟩, hw⟩ := h
  rw [tWhile_eq]
  refine ⟨fun m σ' H' => ∃ e Hs' Fr', EnvR Hs' Fr' H' σ' e ∧ Stp Hs Fr Hs' Fr' ∧ Same Hs' Fr' ∧ Same Fr' H' ∧ Kp σ env σ' e ∧ W m e, ⟨m0, env, Hs, Fr, er, Stp.refl _ _, sf, fh, Kp.refl _ _, w0⟩, ?_⟩
  rintro m σ' H' ⟨e, Hs', Fr', r', s', sf', fh', p', wm⟩
  refine ht.run σ' Hs' Fr' H' e _ _ r' sf' fh' (hw m e wm) fun c e1 Hs1 Fr1 H1 r1 s1 sf1 fh1 h1 => ?_
  obtain ⟨ke, h1⟩ := h1
  have p1 : Kp σ env σ' e1 := p'.trans (.ofE ke)
  have s1' : Stp Hs Fr Hs1 Fr1 := s'.trans s1
  cases c with
  | false => exact kn σ' e1 Hs1 Fr1 H1 r1 s1' sf1 fh1 p1 h1
  | true =>
    refine ⟨fun σ'' H'' => ∃ m', m' < m ∧ ∃ e Hs'' Fr'', EnvR Hs'' Fr'' H'' σ'' e ∧ Stp Hs Fr Hs'' Fr'' ∧ Same Hs'' Fr'' ∧ Same Fr'' H'' ∧ Kp σ env σ'' e ∧ W m' e, fun σ'' H'' ⟨m', hm, hN⟩ => ⟨m', hm, hN⟩, ?_⟩
    refine hb.run σ' Hs1 Fr1 H1 e1 _ _ r1 sf1 fh1 h1 ?_ ?_ ?_ ?_
    · exact fun σ4 e4 Hs4 Fr4 H4 r4 s4 sf4 fh4 p4 ⟨m', hm, h4⟩ => ⟨m', hm, e4, Hs4, Fr4, r4, s1'.trans s4, sf4, fh4, p1.trans p4, h4⟩
    · exact fun v d σ4 e4 Hs4 Fr4 H4 r4 s4 sf4 fh4 p4 rv h4 => kr v d σ4 e4 Hs4 Fr4 H4 r4 (s1'.trans s4) sf4 fh4 (p1.trans p4) rv h4
    · exact fun σ4 e4 Hs4 Fr4 H4 r4 s4 sf4 fh4 p4 h4 => kn σ4 e4 Hs4 Fr4 H4 r4 (s1'.trans s4) sf4 fh4 (p1.trans p4) h4
    · exact fun σ4 e4 Hs4 Fr4 H4 r4 s4 sf4 fh4 p4 ⟨m', hm, h4⟩ => ⟨m', hm, e4, Hs4, Fr4, r4, s1'.trans s4, sf4, fh4, p1.trans p4, h4⟩⟩

/-! ### lists of one's own -/
/-- a name gets a new list that it may change -/
def tAsgO (te : TE) (i : Nat) : TS := tAsg te (gName i)
def dAsgO (dn : DA) (i : Nat) : DS := fun env E => dn env fun xs env1 => keepE env env1 ∧ free env1 i = true ∧ E.nx (env1.set i (some (.l xs)))
theorem EnvF.setL {Hs Fr H : Hp} {σ : L2.St} {env : Env} {fp : Nat → List Addr} (r : EnvF Hs Fr H σ env fp) (i : Nat) {p : Addr} {vs : List V} {xs : List D} (h : H p = some (.lst vs)) (q : RpA Hs vs xs) (hf : Fr p = none) (hn : ∀ (j : Nat) e, env[j]? = some (some e) → p ∉ fp j) :
    EnvF Hs Fr H (σ.set i (some (.ref p))) (env.set i (some (.l xs))) (fun j => if j = i then [p] else fp j) := by
  refine ⟨by simp [r.len], fun j e he => ?_, fun j e he a ha => ?_, fun j k e e' hjk h1 h2 a ha => ?_⟩
  · by_cases q' : j = i
    · subst q'
      have hl : j < env.length := by
        have := (List.getElem?_eq_some_iff.mp he).1
        simpa using this
      rw [List.getElem?_set_self hl] at he
      cases he
      exact ⟨_, List.getElem?_set_self (by rw [r.len]; exact hl), p, vs, rfl, by simp, h, q⟩
    · rw [List.getElem?_set_ne (Ne.symm q')] at he
      obtain ⟨u, h1, h2⟩ := r.at_ j e he
      exact ⟨u, by rw [List.getElem?_set_ne (Ne.symm q')]; exact h1, by simp only [if_neg q']; exact h2⟩
  · by_cases q' : j = i
    · rw [if_pos q'] at ha
      have : a = p := by simpa using ha
      rw [this]; exact hf
    · rw [if_neg q'] at ha
      rw [List.getElem?_set_ne (Ne.symm q')] at he
      exact r.fr j e he a ha
  · by_cases q' : j = i
    · rw [if_pos q'] at ha
      have : a = p := by simpa using ha
      rw [this]
      have hk : k ≠ i := fun z => hjk (q'.trans z.symm)
      rw [if_neg hk]
      rw [List.getElem?_set_ne (Ne.symm hk)] at h2
      exact hn k e' h2
    · rw [if_neg q'] at ha
      rw [List.getElem?_set_ne (Ne.symm q')] at h1
      by_cases q2 : k = i
      · rw [if_pos q2]
        intro z
        have : a = p := by simpa using z
        rw [this] at ha
        exact hn j e h1 ha
      · rw [if_neg q2]
        rw [List.getElem?_set_ne (Ne.symm q2)] at h2
        exact r.dis j k e e' hjk h1 h2 a ha
instance {te : TE} {dn : DA} {i : Nat} [he : AbsN te dn] : AbsS (tAsgO te i) (dAsgO dn i) := ⟨fun σ Hs Fr H env D E er sf fh h kn _ _ _ => by
  refine he.run σ Hs Fr H env _ _ er sf fh h fun p vs ds env1 Hs1 Fr1 H1 Fe r1 s1 sf1 fe eh off fp1 ep ra hc => ?_
  obtain ⟨ke, f1, h1⟩ := hc
  obtain ⟨fpf, rf⟩ := r1
  have nin := rf.not (.inl (ne_some ep))
  have rf' : EnvF Hs1 Fr1 H1 σ env1 fpf := ⟨rf.len, rf.at_, fun i e he a ha => by
    have hne : a ≠ p := fun z => nin i e he (z ▸ ha)
    rw [← off a hne]; exact rf.fr i e he a ha, rf.dis⟩
  exact kn _ _ Hs1 Fr1 H1 ⟨_, rf'.setL i (eh _ _ ep) ra fp1 nin⟩ s1 sf1 (fe.trans eh) ((Kp.ofE ke).trans (.set _ _ f1)) h1⟩
instance lstN {ta : TA} {da : DA} [ha : AbsA ta da] : AbsN (tLst ta) (fun env C => da env fun xs env1 => xs.length ≤ 100000 ∧ C xs env1) := ⟨fun σ Hs Fr H env Q C er sf fh h k => by
  refine ha.run σ Hs Fr H env _ _ er sf fh h fun xs as env1 Hs1 Fr1 H1 r1 s1 sf1 fh1 p1 h1 => ?_
  refine ⟨by rw [p1.1]; exact szl h1.1, fun p hp => ?_⟩
  have fp1 : Fr1 p = none := none_of fh1 hp
  obtain ⟨fpf, rf⟩ := r1
  exact k p xs as env1 Hs1 Fr1 (upd H1 p (.lst xs)) (upd Fr1 p (.lst xs)) ⟨fpf, rf.frz (Same.refl _) (rf.not (.inr hp)) (fun a ha => upd_ne ha) (fun a ha h => by rw [upd_ne ha]; exact h)⟩ s1 sf1 (same_upd (Same.refl _) fp1) (same_upd2 fh1) (fun a ha => upd_ne ha) fp1 upd_same p1 h1.2⟩
instance listN {K : PySem.W.Frag} {ta : TA} {da : DA} [ha : AbsA ta da] : AbsN (tCB (rListQ K) ta) (fun env C => da env fun as env1 => ∃ a xs, as = [a] ∧ a.items? = some xs ∧ C xs env1) := ⟨fun σ Hs Fr H env Q C er sf fh h k => by
  refine ha.run σ Hs Fr H env _ _ er sf fh h fun xs as env1 Hs1 Fr1 H1 r1 s1 sf1 fh1 p1 h1 => ?_
  obtain ⟨a, ds, rfl, e, h⟩ := h1
  obtain ⟨v, rfl, rv⟩ := p1.one
  have fin : ∀ (vs : List V), RpA Hs1 vs ds → ∀ l, H1 l = none → Q (.ref l) (upd H1 l (.lst vs)) := fun vs q l hl => by
    have fp1 : Fr1 l = none := none_of fh1 hl
    obtain ⟨fpf, rf⟩ := r1
    exact k l vs ds env1 Hs1 Fr1 (upd H1 l (.lst vs)) (upd Fr1 l (.lst vs)) ⟨fpf, rf.frz (Same.refl _) (rf.not (.inr hl)) (fun a ha => upd_ne ha) (fun a ha h => by rw [upd_ne ha]; exact h)⟩ s1 sf1 (same_upd (Same.refl _) fp1) (same_upd2 fh1) (fun a ha => upd_ne ha) fp1 upd_same q h
  cases a with
  | lst ys =>
    cases e
    obtain ⟨p, vs, rfl, e, q⟩ := rv.lst_inv
    exact ⟨p, vs, rfl, .inl (SqL.of ((sf1.trans fh1) _ _ e)), fin vs q⟩
  | tup ys =>
    cases e
    obtain ⟨p, vs, rfl, e, q⟩ := rv.tup_inv
    exact ⟨p, vs, rfl, .inr (SqT.of ((sf1.trans fh1) _ _ e)), fin vs q⟩
  | _ => cases e⟩
theorem EnvR.own {Hs Fr H : Hp} {σ : L2.St} {env : Env} (r : EnvR Hs Fr H σ env) {i : Nat} {xs : List D} (h : env[i]? = some (some (.l xs))) : ∃ p vs, σ[i]? = some (some (.ref p)) ∧ H p = some (.lst vs) ∧ RpA Hs vs xs ∧ Fr p = none := by
  obtain ⟨fp, r⟩ := r
  obtain ⟨v, h1, q, vs, rfl, h2, h3, h4⟩ := r.at_ i _ h
  exact ⟨q, vs, h1, h3, h4, r.fr i _ h q (by rw [h2]; simp)⟩
/-- the list of a slot is changed -/
theorem EnvF.updL {Hs Fr H : Hp} {σ : L2.St} {env : Env} {fp : Nat → List Addr} (r : EnvF Hs Fr H σ env fp) {i : Nat} {xs : List D} (h : env[i]? = some (some (.l xs))) {p : Addr} (hp : σ[i]? = some (some (.ref p))) {ws : List V} {ys : List D} (q : RpA Hs ws ys) :
    EnvF Hs Fr (upd H p (.lst ws)) σ (env.set i (some (.l ys))) fp := by
  obtain ⟨v, h1, q', vs, rfl, h2, h3, h4⟩ := r.at_ i _ h
  rw [hp] at h1
  cases h1
  have hl : i < env.length := (List.getElem?_eq_some_iff.mp h).1
  have back : ∀ j e, (env.set i (some (.l ys)))[j]? = some (some e) → (j = i ∧ e = .l ys) ∨ (j ≠ i ∧ env[j]? = some (some e)) := fun j e he => by
    by_cases z : j = i
    · subst z
      rw [List.getElem?_set_self hl] at he
      cases he
      exact .inl ⟨rfl, rfl⟩
    · rw [List.getElem?_set_ne (Ne.symm z)] at he
      exact .inr ⟨z, he⟩
  have some_ : ∀ j e, (env.set i (some (.l ys)))[j]? = some (some e) → ∃ e', env[j]? = some (some e') := fun j e he => by
    rcases back j e he with ⟨rfl, _⟩ | ⟨_, z⟩
    · exact ⟨_, h⟩
    · exact ⟨_, z⟩
  refine ⟨by simp [r.len], fun j e he => ?_, fun j e he a ha => ?_, fun j k e e' hjk h5 h6 a ha => ?_⟩
  · rcases back j e he with ⟨rfl, rfl⟩ | ⟨z, he'⟩
    · exact ⟨_, hp, p, ws, rfl, h2, upd_same, q⟩
    · obtain ⟨u, h5, h6⟩ := r.at_ j e he'
      refine ⟨u, h5, En.mono h6 (Same.refl _) fun a ha => upd_ne fun z2 => ?_⟩
      have := r.dis j i e _ z he' h a ha
      rw [h2, z2] at this
      simp at this
  · obtain ⟨e', he'⟩ := some_ j e he
    exact r.fr j e' he' a ha
  · obtain ⟨e1, he1⟩ := some_ j e h5
    obtain ⟨e2, he2⟩ := some_ k e' h6
    exact r.dis j k e1 e2 hjk he1 he2 a ha
/-- xs.append(e), xs a list of one's own in the slot i -/
def tAppO (K : PySem.W.Frag) (i : Nat) (te : TE) : TS := tDrop (tBM K "list" rAppend (tVar i) (tCons te tNil))
def dAppO (i : Nat) (de : DE) : DS := fun env E => (∃ xs, env[i]? = some (some (.l xs))) ∧ de env fun y env1 => keepE env env1 ∧ ∃ xs, env1[i]? = some (some (.l xs)) ∧ xs.length < 100000 ∧ E.nx (env1.set i (some (.l (xs ++ [y]))))
theorem Kp.setL {σ : L2.St} {env : Env} {i : Nat} {xs : List D} (e : Option En) (h : env[i]? = some (some (.l xs))) : Kp σ env σ (env.set i e) := fun j w hj => by
  have : i ≠ j := fun z => by rw [← z, h] at hj; cases hj
  exact ⟨rfl, w, by rw [List.getElem?_set_ne this]; exact hj⟩
theorem EnvR.sameOwn {Hs Fr H Hs' Fr' H' : Hp} {σ : L2.St} {env env' : Env} (r : EnvR Hs Fr H σ env) (r' : EnvR Hs' Fr' H' σ env') {i : Nat} {xs ys : List D} (h : env[i]? = some (some (.l xs))) (h' : env'[i]? = some (some (.l ys))) {p : Addr} (hp : σ[i]? = some (some (.ref p))) : ∃ ws, H' p = some (.lst ws) ∧ RpA Hs' ws ys := by
  obtain ⟨q, ws, h1, h2, h3, _⟩ := r'.own h'
  rw [hp] at h1
  cases h1
  exact ⟨ws, h2, h3⟩
theorem same_updF {Fr H : Hp} {p : Addr} {o : HO} (fh : Same Fr H) (n : Fr p = none) : Same Fr (upd H p o) := fun a u h => by
  rw [upd_ne (ne_of_none h n)]; exact fh a u h
instance {K : PySem.W.Frag} {i : Nat} {te : TE} {de : DE} [he : AbsE te de] : AbsS (tAppO K i te) (dAppO i de) := ⟨fun σ Hs Fr H env D E er sf fh h kn _ _ _ => by
  obtain ⟨⟨xs0, h0⟩, h⟩ := h
  obtain ⟨p, vs, hp, hl, ra, hf⟩ := er.own h0
  refine ⟨.ref p, hp, Or.inl ⟨rfl, vs, SqL.of hl⟩, ?_⟩
  refine he.run σ Hs Fr H env _ _ er sf fh h fun y d env1 Hs1 Fr1 H1 r1 s1 sf1 fh1 ry h1 => ?_
  obtain ⟨ke, xs, h2, hlt, h1⟩ := h1
  obtain ⟨p', ws, hp', hl', ra', hf'⟩ := r1.own h2
  rw [hp] at hp'
  cases hp'
  refine ⟨p, ws, y, rfl, rfl, hl', by rw [ra'.1]; exact szlt hlt, ?_⟩
  obtain ⟨fpf, rf⟩ := r1
  exact kn σ _ Hs1 Fr1 _ ⟨fpf, rf.updL h2 hp (ra'.snoc ry)⟩ s1 sf1 (same_updF fh1 hf') ((Kp.ofE ke).trans (.setL _ h2)) h1⟩
/-- a list of one's own is taken as data from here on -/
def tFrz (i : Nat) (t : TS) : TS := t
def dFrz (i : Nat) (a : DS) : DS := fun env E => ∃ xs, env[i]? = some (some (.l xs)) ∧ a (env.set i (some (.d (.lst xs)))) E
theorem EnvR.frzL {Hs Fr H : Hp} {σ : L2.St} {env : Env} (r : EnvR Hs Fr H σ env) (sf : Same Hs Fr) (fh : Same Fr H) {i : Nat} {xs : List D} (h : env[i]? = some (some (.l xs))) :
    ∃ Hs' Fr', EnvR Hs' Fr' H σ (env.set i (some (.d (.lst xs)))) ∧ Stp Hs Fr Hs' Fr' ∧ Same Hs' Fr' ∧ Same Fr' H := by
  obtain ⟨fp, r⟩ := r
  obtain ⟨v, h1, q, vs, rfl, h2, h3, h4⟩ := r.at_ i _ h
  have hf : Fr q = none := r.fr i _ h q (by rw [h2]; simp)
  have hs : Hs q = none := none_of sf hf
  have hl : i < env.length := (List.getElem?_eq_some_iff.mp h).1
  have ss : Same Hs (upd Hs q (.lst vs)) := same_upd (Same.refl _) hs
  have back : ∀ j e, (env.set i (some (.d (.lst xs))))[j]? = some (some e) → (j = i ∧ e = .d (.lst xs)) ∨ (j ≠ i ∧ env[j]? = some (some e)) := fun j e he => by
    by_cases z : j = i
    · subst z
      rw [List.getElem?_set_self hl] at he
      cases he
      exact .inl ⟨rfl, rfl⟩
    · rw [List.getElem?_set_ne (Ne.symm z)] at he
      exact .inr ⟨z, he⟩
  refine ⟨upd Hs q (.lst vs), upd Fr q (.lst vs), ⟨fun j => if j = i then [] else fp j, ?_⟩, ⟨ss, same_upd (Same.refl _) hf, fun a h5 h6 => ?_⟩, same_upd2 sf, fun a o ha => ?_⟩
  · refine ⟨by simp [r.len], fun j e he => ?_, fun j e he a ha => ?_, fun j k e e' hjk h5 h6 a ha => ?_⟩
    · rcases back j e he with ⟨rfl, rfl⟩ | ⟨z, he'⟩
      · exact ⟨_, h1, .lstA upd_same (h4.mono ss), by simp⟩
      · obtain ⟨u, h5, h6⟩ := r.at_ j e he'
        exact ⟨u, h5, by simp only [if_neg z]; exact En.mono h6 ss fun _ _ => rfl⟩
    · rcases back j e he with ⟨rfl, rfl⟩ | ⟨z, he'⟩
      · simp at ha
      · rw [if_neg z] at ha
        rw [upd_ne (fun z2 => by
          have := r.dis j i e _ z he' h a ha
          rw [h2, z2] at this
          simp at this)]
        exact r.fr j e he' a ha
    · rcases back j e h5 with ⟨rfl, rfl⟩ | ⟨z, he'⟩
      · simp at ha
      · rw [if_neg z] at ha
        rcases back k e' h6 with ⟨rfl, rfl⟩ | ⟨z2, he2⟩
        · simp
        · rw [if_neg z2]
          exact r.dis j k e e' hjk he' he2 a ha
  · rw [upd_ne (fun z => h5 (by rw [z]; exact hf))]; exact h6
  · by_cases z : a = q
    · rw [z, upd_same] at ha
      rw [z, h3]; exact ha
    · rw [upd_ne z] at ha
      exact fh a o ha
instance {i : Nat} {t : TS} {a : DS} [ht : AbsS t a] : AbsS (tFrz i t) (dFrz i a) := ⟨fun σ Hs Fr H env D E er sf fh h kn kr kb kc => by
  obtain ⟨xs, h0, h⟩ := h
  obtain ⟨Hs1, Fr1, r1, s1, sf1, fh1⟩ := er.frzL sf fh h0
  have p1 : Kp σ env σ (env.set i (some (.d (.lst xs)))) := .setL _ h0
  refine ht.run σ Hs1 Fr1 H _ D E r1 sf1 fh1 h ?_ ?_ ?_ ?_
  · exact fun σ2 env2 Hs2 Fr2 H2 r2 s2 sf2 fh2 p2 h2 => kn σ2 env2 Hs2 Fr2 H2 r2 (s1.trans s2) sf2 fh2 (p1.trans p2) h2
  · exact fun v d σ2 env2 Hs2 Fr2 H2 r2 s2 sf2 fh2 p2 rv h2 => kr v d σ2 env2 Hs2 Fr2 H2 r2 (s1.trans s2) sf2 fh2 (p1.trans p2) rv h2
  · exact fun σ2 env2 Hs2 Fr2 H2 r2 s2 sf2 fh2 p2 h2 => kb σ2 env2 Hs2 Fr2 H2 r2 (s1.trans s2) sf2 fh2 (p1.trans p2) h2
  · exact fun σ2 env2 Hs2 Fr2 H2 r2 s2 sf2 fh2 p2 h2 => kc σ2 env2 Hs2 Fr2 H2 r2 (s1.trans s2) sf2 fh2 (p1.trans p2) h2⟩
end Lf
set_option Elab.async false
set_option linter.all false
set_option maxRecDepth 100000
set_option maxHeartbeats 4000000
namespace Lf
open PySem PySem.Spec PyProof.Rows L2 RZ

theorem keepE_refl {env : Env} : keepE env env := fun i w h => ⟨w, h⟩
theorem keepE_set {env : Env} {i : Nat} {w : Ow} : keepE env (env.set i (some (.o w))) := fun j u h => by
  by_cases q : i = j
  · subst q
    exact ⟨w, List.getElem?_set_self (List.getElem?_eq_some_iff.mp h).1⟩
  · exact ⟨u, by rw [List.getElem?_set_ne q]; exact h⟩

/-! ### promises over data -/
abbrev PW := List D → (D → Prop) → Prop
abbrev OW := Ow → List D → (D → Ow → Prop) → Prop
def PSp (n : Nat) (pw : PW) : Sp := fun vs H Q _ => vs.length = n ∧ ∃ Hs Fr ds C, Same Hs Fr ∧ Same Fr H ∧ RpA Hs vs ds ∧ pw ds C ∧
  ∀ v d Hs' Fr' H', Stp Hs Fr Hs' Fr' → Same Hs' Fr' → Same Fr' H' → Rp Hs' v d → C d → Q v H'
def OSp (n : Nat) (ow : OW) : Sp := fun vs H Q _ => vs.length = n ∧ ∃ Hs Fr w v0 vs' ds fp C, vs = v0 :: vs' ∧ Same Hs Fr ∧ Same Fr H ∧ w.At Hs H v0 fp ∧ (∀ a ∈ fp, Fr a = none) ∧ RpA Hs vs' ds ∧ ow w ds C ∧
  ∀ v d w' fp' Hs' Fr' H', w'.At Hs' H' v0 fp' → (∀ a ∈ fp', Fr' a = none) → Stp Hs Fr Hs' Fr' → Same Hs' Fr' → Same Fr' H' → Rp Hs' v d → C d w' → Q v H'
theorem PSp.len {n : Nat} {pw : PW} {vs : List V} {H : Hp} {Q : VK} {E : XK} (h : PSp n pw vs H Q E) : vs.length = n := h.1
theorem OSp.len {n : Nat} {ow : OW} {vs : List V} {H : Hp} {Q : VK} {E : XK} (h : OSp n ow vs H Q E) : vs.length = n := h.1
/-- the environment at a def's start -/
def env0 (k : Nat) (ds : List D) : Env := ds.map (fun d => some (.d d)) ++ List.replicate k none
theorem start_eq (N : List Str) (vs : List V) : start N vs = vs.map some ++ List.replicate (N.length - vs.length) none := rfl
theorem envR_start {Hs Fr H : Hp} {vs : List V} {ds : List D} (k : Nat) (r : RpA Hs vs ds) : EnvF Hs Fr H (vs.map some ++ List.replicate k none) (env0 k ds) (fun _ => []) := by
  refine ⟨by simp [env0, r.1], fun i e he => ?_, fun i e _ a ha => by simp at ha, fun i j e e' _ _ _ a ha => by simp at ha⟩
  unfold env0 at he
  by_cases hi : i < ds.length
  · rw [List.getElem?_append_left (by simpa using hi), List.getElem?_map, List.getElem?_eq_getElem hi] at he
    cases he
    have h1 : ds[i]? = some ds[i] := List.getElem?_eq_getElem hi
    obtain ⟨v, hv, rv⟩ := r.atD h1
    refine ⟨v, ?_, rv, rfl⟩
    have hi2 : i < vs.length := by rw [r.1]; exact hi
    rw [List.getElem?_append_left (by simpa using hi2), List.getElem?_map, hv]
    rfl
  · rw [List.getElem?_append_right (by simpa using hi), List.getElem?_replicate] at he
    split at he <;> cases he
theorem ps_body {n : Nat} {pw : PW} {N : List Str} {t : TS} {ds : DS} {vs : List V} {H : Hp} {Q : VK} {E : XK} (h : PSp n pw vs H Q E) (ha : AbsS t ds)
    (body : ∀ as C, as.length = n → pw as C → ds (env0 (N.length - n) as) { nx := fun _ => C .non, rt := fun d _ => C d }) : t { nx := fun _ H' => Q .non H', rt := Q } (start N vs) H := by
  obtain ⟨hl, Hs, Fr, as, C, sf, fh, ra, hw, hC⟩ := h
  have e : as.length = n := by rw [← ra.1]; exact hl
  have er : EnvF Hs Fr H (start N vs) (env0 (N.length - n) as) (fun _ => []) := by
    rw [start_eq, hl]
    exact envR_start _ ra
  refine ha.run (start N vs) Hs Fr H _ _ _ ⟨_, er⟩ sf fh (body as C e hw) ?_ ?_ ?_ ?_
  · exact fun σ' env' Hs' Fr' H' r' s' sf' fh' k' c => hC _ _ Hs' Fr' H' s' sf' fh' .non c
  · exact fun v d σ' env' Hs' Fr' H' r' s' sf' fh' k' rv c => hC v d Hs' Fr' H' s' sf' fh' rv c
  · exact fun σ' env' Hs' Fr' H' r' s' sf' fh' k' c => c.elim
  · exact fun σ' env' Hs' Fr' H' r' s' sf' fh' k' c => c.elim
theorem os_body {n : Nat} {ow : OW} {N : List Str} {t : TS} {ds : DS} {vs : List V} {H : Hp} {Q : VK} {E : XK} (h : OSp n ow vs H Q E) (ha : AbsS t ds)
    (body : ∀ w as C, as.length + 1 = n → ow w as C → ds (some (.o w) :: env0 (N.length - n) as) { nx := fun env' => ∃ w', env'[0]? = some (some (.o w')) ∧ C .non w', rt := fun d env' => ∃ w', env'[0]? = some (some (.o w')) ∧ C d w' }) :
    t { nx := fun _ H' => Q .non H', rt := Q } (start N vs) H := by
  obtain ⟨hl, Hs, Fr, w, v0, vs', as, fp, C, rfl, sf, fh, hat, hfr, ra, hw, hC⟩ := h
  have e : as.length + 1 = n := by rw [← ra.1]; simpa using hl
  have hes : start N (v0 :: vs') = some v0 :: (vs'.map some ++ List.replicate (N.length - n) none) := by
    rw [start_eq, hl]; rfl
  have er : EnvF Hs Fr H (some v0 :: (vs'.map some ++ List.replicate (N.length - n) none)) (some (.o w) :: env0 (N.length - n) as) (fun i => if i = 0 then fp else []) := by
    have r1 := envR_start (Hs := Hs) (Fr := Fr) (H := H) (N.length - n) ra
    refine ⟨by simpa using r1.len, fun i e he => ?_, fun i e he a ha => ?_, fun i j e e' hij h1 h2 a ha => ?_⟩
    · cases i with
      | zero =>
        cases he
        exact ⟨v0, rfl, hat⟩
      | succ i =>
        obtain ⟨v, h1, h2⟩ := r1.at_ i e (by simpa using he)
        exact ⟨v, by simpa using h1, by simpa using h2⟩
    · cases i with
      | zero => exact hfr a (by simpa using ha)
      | succ i => simp at ha
    · cases i with
      | zero =>
        cases j with
        | zero => exact absurd rfl hij
        | succ j => simp
      | succ i => simp at ha
  rw [hes]
  have fin : ∀ {σ' : L2.St} {env' : Env} {Hs' Fr' H' : Hp}, EnvR Hs' Fr' H' σ' env' → Kp (some v0 :: (vs'.map some ++ List.replicate (N.length - n) none)) (some (.o w) :: env0 (N.length - n) as) σ' env' → ∀ w', env'[0]? = some (some (.o w')) → ∃ fp', w'.At Hs' H' v0 fp' ∧ ∀ a ∈ fp', Fr' a = none := fun {σ' env' Hs' Fr' H'} r' k' w' hw' => by
    obtain ⟨fpf, rf⟩ := r'
    obtain ⟨v, h1, h2⟩ := rf.at_ 0 _ hw'
    have h3 := (k' 0 w rfl).1
    rw [h1] at h3
    cases h3
    exact ⟨fpf 0, h2, rf.fr 0 _ hw'⟩
  refine ha.run _ Hs Fr H _ _ _ ⟨_, er⟩ sf fh (body w as C e hw) ?_ ?_ ?_ ?_
  · rintro σ' env' Hs' Fr' H' r' s' sf' fh' k' ⟨w', hw', c⟩
    obtain ⟨fp', h1, h2⟩ := fin r' k' w' hw'
    exact hC _ _ w' fp' Hs' Fr' H' h1 h2 s' sf' fh' .non c
  · rintro v d σ' env' Hs' Fr' H' r' s' sf' fh' k' rv ⟨w', hw', c⟩
    obtain ⟨fp', h1, h2⟩ := fin r' k' w' hw'
    exact hC v d w' fp' Hs' Fr' H' h1 h2 s' sf' fh' rv c
  · exact fun σ' env' Hs' Fr' H' r' s' sf' fh' k' c => c.elim
  · exact fun σ' env' Hs' Fr' H' r' s' sf' fh' k' c => c.elim

/-! ### calls -/
open Classical in
/-- what is kept over a call: all that is kept, and the parts of one's own -/
noncomputable def frC (Fr H : Hp) (P : Addr → Prop) : Hp := fun a => match Fr a with
  | some o => some o
  | none => if P a then H a else none
open Classical in
noncomputable def frD (Fr : Hp) (P : Addr → Prop) : Hp := fun a => if P a then none else Fr a
theorem frC_keep {Fr H : Hp} {P : Addr → Prop} : Same Fr (frC Fr H P) := fun a o h => by unfold frC; rw [h]
theorem frC_heap {Fr H : Hp} {P : Addr → Prop} (fh : Same Fr H) : Same (frC Fr H P) H := fun a o h => by
  unfold frC at h
  cases q : Fr a with
  | some u => rw [q] at h; cases h; exact fh a _ q
  | none =>
    rw [q] at h
    by_cases z : P a
    · simp only [z, if_true] at h; exact h
    · simp only [z, if_false] at h; cases h
theorem frC_in {Fr H : Hp} {P : Addr → Prop} {a : Addr} (hp : P a) (hf : Fr a = none) : frC Fr H P a = H a := by
  unfold frC; rw [hf]; simp only [hp, if_true]
structure After (Hs Fr H : Hp) (P : Addr → Prop) (Hs' Fr' H' : Hp) : Prop where
  st : Stp Hs Fr Hs' (frD Fr' P)
  sf : Same Hs' (frD Fr' P)
  fh : Same (frD Fr' P) H'
  at_ : ∀ a, P a → H' a = H a
  out : ∀ a, P a → Fr' a ≠ none
theorem after {Hs Fr H Hs' Fr' H' : Hp} {P : Addr → Prop} (sf : Same Hs Fr) (hP : ∀ a, P a → Fr a = none ∧ H a ≠ none) (s : Stp Hs (frC Fr H P) Hs' Fr') (sf' : Same Hs' Fr') (fh' : Same Fr' H') : After Hs Fr H P Hs' Fr' H' := by
  have known : ∀ a, P a → ∃ o, H a = some o ∧ frC Fr H P a = some o := fun a ha => by
    obtain ⟨h1, h2⟩ := hP a ha
    cases q : H a with
    | none => exact absurd q h2
    | some o => exact ⟨o, rfl, by rw [frC_in ha h1, q]⟩
  have dkeep : ∀ a, ¬ P a → frD Fr' P a = Fr' a := fun a ha => by unfold frD; simp only [ha, if_false]
  have hsn : ∀ a, P a → Hs' a = none := fun a ha => by
    obtain ⟨o, h1, h2⟩ := known a ha
    exact s.sep a (by rw [h2]; exact fun z => by cases z) (none_of sf (hP a ha).1)
  refine ⟨⟨s.s, fun a o h => ?_, fun a h1 h2 => ?_⟩, fun a o h => ?_, fun a o h => ?_, fun a ha => ?_, fun a ha => ?_⟩
  · have : ¬ P a := fun z => by rw [(hP a z).1] at h; cases h
    rw [dkeep a this]
    exact s.f a o (frC_keep a o h)
  · exact s.sep a (some_ne frC_keep h1) h2
  · have : ¬ P a := fun z => by rw [hsn a z] at h; cases h
    rw [dkeep a this]
    exact sf' a o h
  · by_cases z : P a
    · unfold frD at h; simp only [z, if_true] at h; cases h
    · rw [dkeep a z] at h; exact fh' a o h
  · obtain ⟨o, h1, h2⟩ := known a ha
    rw [h1]
    exact fh' a o (s.f a o h2)
  · obtain ⟨o, h1, h2⟩ := known a ha
    rw [s.f a o h2]; exact fun z => by cases z
def Owned (env : Env) (fp : Nat → List Addr) (no : Nat → Prop) (a : Addr) : Prop := ∃ i e, ¬ no i ∧ env[i]? = some (some e) ∧ a ∈ fp i
theorem EnvF.ownedP {Hs Fr H : Hp} {σ : L2.St} {env : Env} {fp : Nat → List Addr} (r : EnvF Hs Fr H σ env fp) (no : Nat → Prop) : ∀ a, Owned env fp no a → Fr a = none ∧ H a ≠ none := fun a ⟨i, e, _, he, ha⟩ => by
  obtain ⟨v, h1, h2⟩ := r.at_ i e he
  exact ⟨r.fr i e he a ha, En.known h2 a ha⟩
def dCallP (n : Nat) (pw : PW) (da : DA) : DE := fun env C => da env fun ds env1 => ds.length = n ∧ pw ds fun d => C d env1
instance {n : Nat} {pw : PW} {E : XK} {t : TA} {da : DA} [ha : AbsA t da] : AbsE (tCall (PSp n pw) [] E t) (dCallP n pw da) := ⟨fun σ Hs Fr H env Q C er sf fh h k => by
  refine ha.run σ Hs Fr H env _ _ er sf fh h fun vs ds env1 Hs1 Fr1 H1 r1 s1 sf1 fh1 ra hc => ?_
  obtain ⟨hn, hp⟩ := hc
  obtain ⟨fp, rf⟩ := r1
  have hP := rf.ownedP (fun _ => False)
  refine ⟨by rw [List.append_nil, ra.1]; exact hn, Hs1, frC Fr1 H1 (Owned env1 fp fun _ => False), ds, _, sf1.trans frC_keep, frC_heap fh1, by rw [List.append_nil]; exact ra, hp, fun v d Hs' Fr' H' s' sf' fh' rv c => ?_⟩
  have A := after sf1 hP s' sf' fh'
  refine k v d env1 Hs' _ H' ⟨fp, rf.len, fun i e he => ?_, fun i e he a ha => ?_, rf.dis⟩ (s1.trans A.st) A.sf A.fh rv c
  · obtain ⟨u, h1, h2⟩ := rf.at_ i e he
    exact ⟨u, h1, En.mono h2 s'.s fun a ha => A.at_ a ⟨i, e, id, he, ha⟩⟩
  · have z : Owned env1 fp (fun _ => False) a := ⟨i, e, id, he, ha⟩
    show frD Fr' _ a = none
    unfold frD
    simp only [z, if_true]⟩
/-- a call with an object of one's own, the name in the slot i, as its first argument -/
def tCallO (sp : Sp) (i : Nat) (E : XK) (t : TA) : TE := tCall sp [] E (tCons (tVar i) t)
def dCallO (n : Nat) (ow : OW) (i : Nat) (da : DA) : DE := fun env C => (∃ w, env[i]? = some (some (.o w))) ∧ da env fun ds env1 => ds.length + 1 = n ∧ keepE env env1 ∧ ∃ w, env1[i]? = some (some (.o w)) ∧ ow w ds fun d w' => C d (env1.set i (some (.o w')))
theorem EnvF.setO {Hs Fr H : Hp} {σ : L2.St} {env : Env} {fp : Nat → List Addr} {i : Nat} {w : Ow} {fp' : List Addr} {v0 : V} (hl : σ.length = env.length) (hi : i < env.length) (h0 : σ[i]? = some (some v0)) (hw : w.At Hs H v0 fp') (hf : ∀ a ∈ fp', Fr a = none)
    (at_ : ∀ (j : Nat) e, j ≠ i → env[j]? = some (some e) → ∃ v, σ[j]? = some (some v) ∧ e.At Hs H v (fp j)) (fr : ∀ (j : Nat) e, j ≠ i → env[j]? = some (some e) → ∀ a ∈ fp j, Fr a = none)
    (dis : ∀ (j k : Nat) e e', j ≠ i → k ≠ i → j ≠ k → env[j]? = some (some e) → env[k]? = some (some e') → ∀ a ∈ fp j, a ∉ fp k) (dis' : ∀ (j : Nat) e, j ≠ i → env[j]? = some (some e) → ∀ a ∈ fp j, a ∉ fp') :
    EnvF Hs Fr H σ (env.set i (some (.o w))) (fun j => if j = i then fp' else fp j) := by
  have back : ∀ j e, (env.set i (some (.o w)))[j]? = some (some e) → (j = i ∧ e = .o w) ∨ (j ≠ i ∧ env[j]? = some (some e)) := fun j e he => by
    by_cases z : j = i
    · subst z
      rw [List.getElem?_set_self hi] at he
      cases he
      exact .inl ⟨rfl, rfl⟩
    · rw [List.getElem?_set_ne (Ne.symm z)] at he
      exact .inr ⟨z, he⟩
  refine ⟨by simpa using hl, fun j e he => ?_, fun j e he a ha => ?_, fun j k e e' hjk h5 h6 a ha => ?_⟩
  · rcases back j e he with ⟨rfl, rfl⟩ | ⟨z, he'⟩
    · exact ⟨v0, h0, by show w.At Hs H v0 (if j = j then fp' else fp j); rw [if_pos rfl]; exact hw⟩
    · obtain ⟨u, h5, h6⟩ := at_ j e z he'
      exact ⟨u, h5, by simp only [if_neg z]; exact h6⟩
  · rcases back j e he with ⟨rfl, rfl⟩ | ⟨z, he'⟩
    · rw [if_pos rfl] at ha; exact hf a ha
    · rw [if_neg z] at ha; exact fr j e z he' a ha
  · rcases back j e h5 with ⟨rfl, rfl⟩ | ⟨z, he'⟩
    · rcases back k e' h6 with ⟨rfl, rfl⟩ | ⟨z2, he2⟩
      · exact absurd rfl hjk
      · rw [if_pos rfl] at ha
        rw [if_neg z2]
        exact fun q => dis' k e' z2 he2 a q ha
    · rw [if_neg z] at ha
      rcases back k e' h6 with ⟨rfl, rfl⟩ | ⟨z2, he2⟩
      · rw [if_pos rfl]; exact dis' j e z he' a ha
      · rw [if_neg z2]; exact dis j k e e' z z2 hjk he' he2 a ha
instance {n : Nat} {ow : OW} {i : Nat} {E : XK} {t : TA} {da : DA} [ha : AbsA t da] : AbsE (tCallO (OSp n ow) i E t) (dCallO n ow i da) := ⟨fun σ Hs Fr H env Q C er sf fh h k => by
  obtain ⟨⟨w0, hw0⟩, h⟩ := h
  have hv0 : ∃ v0, σ[i]? = some (some v0) := by
    obtain ⟨fp, r⟩ := er
    obtain ⟨v, h1, _⟩ := r.at_ i _ hw0
    exact ⟨v, h1⟩
  obtain ⟨v0, hv0⟩ := hv0
  refine ⟨v0, hv0, ?_⟩
  refine ha.run σ Hs Fr H env _ _ er sf fh h fun vs ds env1 Hs1 Fr1 H1 r1 s1 sf1 fh1 ra hc => ?_
  obtain ⟨hn, ke, w, hw, ho⟩ := hc
  obtain ⟨fp, rf⟩ := r1
  obtain ⟨u0, hu0, hat⟩ := rf.at_ i _ hw
  rw [hv0] at hu0
  cases hu0
  have hP := rf.ownedP (fun j => j = i)
  have hfr : ∀ a ∈ fp i, frC Fr1 H1 (Owned env1 fp fun j => j = i) a = none := fun a ha => by
    have h1 := rf.fr i _ hw a ha
    have h2 : ¬ Owned env1 fp (fun j => j = i) a := fun ⟨j, e, hj, he, hm⟩ => rf.dis j i e _ hj he hw a hm ha
    unfold frC
    rw [h1]
    simp only [h2, if_false]
  refine ⟨by simp [ra.1]; exact hn, Hs1, frC Fr1 H1 (Owned env1 fp fun j => j = i), w, v0, vs, ds, fp i, _, by simp, sf1.trans frC_keep, frC_heap fh1, hat, hfr, ra, ho, fun v d w' fp' Hs' Fr' H' hat' hfr' s' sf' fh' rv c => ?_⟩
  have A := after sf1 hP s' sf' fh'
  have hi : i < env1.length := (List.getElem?_eq_some_iff.mp hw).1
  refine k v d _ Hs' _ H' ⟨_, EnvF.setO (fp := fp) rf.len hi hv0 hat' (fun a ha => ?_) (fun j e hj he => ?_) (fun j e hj he a ha => ?_) (fun j q e e' _ _ hjq => rf.dis j q e e' hjq) (fun j e hj he a ha hm => ?_)⟩ (s1.trans A.st) A.sf A.fh rv c
  · show frD Fr' _ a = none
    unfold frD
    split
    · rfl
    · exact hfr' a ha
  · obtain ⟨u, h1, h2⟩ := rf.at_ j e he
    exact ⟨u, h1, En.mono h2 s'.s fun a ha => A.at_ a ⟨j, e, hj, he, ha⟩⟩
  · have z : Owned env1 fp (fun j => j = i) a := ⟨j, e, hj, he, ha⟩
    show frD Fr' _ a = none
    unfold frD
    simp only [z, if_true]
  · exact A.out a ⟨j, e, hj, he, ha⟩ (hfr' a hm)⟩

/-! ### isinstance -/
abbrev tIsi (K : PySem.W.Frag) (T : String) (ta : TE) : TE := tCB (rIsi K) (tCons ta (tCons (tC (.ty T)) tNil))
def dIsi (T : String) (da : DE) : DE := fun env C => da env fun x env1 => ∃ b, kitD x T = some b ∧ C (.bl b) env1
instance {K : PySem.W.Frag} {T : String} {ta : TE} {da : DE} [ha : AbsE ta da] : AbsE (tIsi K T ta) (dIsi T da) := ⟨fun σ Hs Fr H env Q C er sf fh h k => by
  refine ha.run σ Hs Fr H env _ _ er sf fh h fun v d env1 Hs1 Fr1 H1 r1 s1 sf1 fh1 rv hc => ?_
  obtain ⟨b, hb, c⟩ := hc
  obtain ⟨no, hb⟩ := kitD_some hb
  exact ⟨v, .ty T, _, _, b, rfl, .ty T, (rv.mono (sf1.trans fh1)).tyx no, kit_ty hb, k _ _ env1 Hs1 Fr1 H1 r1 s1 sf1 fh1 (.bl b) c⟩⟩
abbrev tIsi2 (K : PySem.W.Frag) (T U : String) (ta : TE) : TE := tCB (rIsiT K) (tCons ta (tCons (tTup (tCons (tC (.ty T)) (tCons (tC (.ty U)) tNil))) tNil))
def dIsi2 (T U : String) (da : DE) : DE := fun env C => da env fun x env1 => ∃ b c, kitD x T = some b ∧ kitD x U = some c ∧ C (.bl (b || c)) env1
instance {K : PySem.W.Frag} {T U : String} {ta : TE} {da : DE} [ha : AbsE ta da] : AbsE (tIsi2 K T U ta) (dIsi2 T U da) := ⟨fun σ Hs Fr H env Q C er sf fh h k => by
  refine ha.run σ Hs Fr H env _ _ er sf fh h fun v d env1 Hs1 Fr1 H1 r1 s1 sf1 fh1 rv hc => ?_
  obtain ⟨b, b', hb, hb', c⟩ := hc
  obtain ⟨no, hb⟩ := kitD_some hb
  obtain ⟨_, hb'⟩ := kitD_some hb'
  refine ⟨by show 2 ≤ sizeLine; decide, fun p hp => ?_⟩
  have g := Gr.new sf1 fh1 hp (.tup [V.ty T, V.ty U])
  refine ⟨v, p, [.ty T, .ty U], _, [.type T, .type U], b || b', rfl, upd_same, .cons (.ty T) (.cons (.ty U) .nil), ((rv.mono (sf1.trans fh1)).mono g.h).tyx no, kitAny_cons (kit_ty hb) (fun q => ?_) (fun q => by rw [q]; rfl), k _ _ env1 _ _ _ (r1.gr g) (s1.trans g.st) g.sf g.fh (.bl _) c⟩
  refine kitAny_cons (kit_ty hb') (fun q2 => ?_) (fun q2 => by rw [q2, Bool.or_true])
  rw [q, q2]
  exact kitAny_nil⟩
end Lf
set_option Elab.async false
set_option linter.all false
set_option maxRecDepth 100000
set_option maxHeartbeats 4000000
namespace L2
open PySem PySem.Spec PyProof.Rows
theorem tuple_mul1 (l : Addr) (items : Array Value) (n : Nat) (dd : Option Addr) (sl : Array (Option Value)) (u : Tok) :
    Meets (Builtin.«tuple.__mul__» ⟨[.ref l, .int 1 u], []⟩) (fun _ R s => s.heap.get? l = some { cls := .type "tuple", dict := dd, data := .seq items n, slots := sl } ∧
      R (.ok (.ret (Value.ref l))) s) :=
  .of_wp fun P0 w0 A0 R0 st h0 => by
    obtain ⟨hp, gl, dd0, tk, os⟩ := st ; obtain ⟨hl, h⟩ := h0
    have f1 := AutoSeq1.idx_int
    wp_walk using wpAny_loadPart' hl ; repeat (first
      | (refine wpAny_ite_false (by decide) ?_; wp_walk using wpAny_loadPart' hl)
      | (refine wpAny_ite_true (by simp) ?_; wp_walk using wpAny_loadPart' hl))
    all_goals first
      | exact ⟨_, rfl, h⟩
      | exact h


/-- tuple * int, from 1 on -/
def rRepU (K : PySem.W.Frag) : R2 := fun x y H Q => ∃ l k xs, x = .ref l ∧ y = .int k ∧ SqT K H l xs ∧ xs ≠ [] ∧ 1 ≤ k ∧ k ≤ 1000 ∧ xs.length ≤ 1000 ∧ (k = 1 → Q (.ref l) H) ∧ (2 ≤ k → ∀ p, H p = none → Q (.ref p) (upd H p (.tup (List.replicate k.toNat xs).flatten)))
section
variable {X : Cx}
theorem op_repU : OpR X (binaryOp .Mult) (rRepU X.K) := by
  intro pins s σ H x y v u Q I rx ry h ; obtain ⟨l, k, xs, rfl, rfl, hT, hne, h1, h2, hz, q1, q⟩ := h
  by_cases hk : k = 1
  · subst hk
    cases rx
    obtain ⟨t, rfl⟩ := ry
    obtain ⟨its, r, ⟨⟨cls, dd, data, sl⟩, ho, hc, n, hd⟩, hs⟩ := I.tuple hT ; simp only at hc hd
    subst hc hd
    refine wpAny_binaryOp_repeat_ref (T := "tuple") (U := "int") (by decide) ⟨_, ho, rfl⟩ (fun s' => typeIs_int s' 1 t) noFill_tuple_mul F.fills_int_mul F.slot_int_rmul repeat_tuple F.slot_int_index.lookup
      (call_meets F.slot_int_rmul (typeIs_int s 1 t) F.entry_int_rmul (F.args_int_rmul_2 _ _) (int_rmul_tuple 1 t l its.toArray n dd sl)
        ⟨ho, rfl, ⟨_, ho, rfl⟩, call_meets F.slot_tuple_mul ⟨_, ho, rfl⟩ F.entry_tuple_mul (F.args_tuple_mul_2 _ _) (tuple_mul1 l its.toArray n dd sl t) ⟨ho, ?_⟩⟩)
    exact ⟨.ref l, H, I, rfl, q1 rfl⟩
  · exact op_repT pins s σ H _ _ v u Q I rx ry ⟨l, k, xs, rfl, rfl, hT, hne, by omega, h2, hz, q (by omega)⟩
end
end L2
namespace Lf
open PySem PySem.Spec PyProof.Rows L2 RZ
/-! + , *, // of any kind -/
abbrev rAddI : R2 := rI0 fun i j => .int (i + j)
def rbAdd (K : PySem.W.Frag) : R2 := fun x y H Q => rAddI x y H Q ∨ (rCatA K x y H Q ∨ rCat x y H Q)
theorem ob_add {X : Cx} : OpR X (binaryOp .Add) (rbAdd X.K) := op_add.or (op_catA.or op_cat)
def dbAdd : DR2 := fun x y C => (∃ i j, x = .int i ∧ y = .int j ∧ C (.int (i + j))) ∨ (∃ xs ys, x = .tup xs ∧ y = .tup ys ∧ xs.length + ys.length ≤ 100000 ∧ C (.tup (xs ++ ys))) ∨ (∃ xs ys, x = .lst xs ∧ y = .lst ys ∧ xs.length + ys.length ≤ 100000 ∧ C (.lst (xs ++ ys)))
theorem RpA.append {H : Hp} : ∀ {vs ws : List V} {ds es : List D}, RpA H vs ds → RpA H ws es → RpA H (vs ++ ws) (ds ++ es)
  | [], ws, [], es, _, r => r
  | [], _, _ :: _, _, r, _ => by have := r.1; simp at this
  | _ :: _, _, [], _, r, _ => by have := r.1; simp at this
  | v :: vs, ws, d :: ds, es, r, r' => by
    have rx : Rp H v d := r.2 0 v d rfl rfl
    have rr : RpA H vs ds := ⟨by have := r.1; simpa using this, fun i v d a b => r.2 (i + 1) v d (by simpa using a) (by simpa using b)⟩
    exact .cons rx (RpA.append rr r')
theorem RpA.isNil {H : Hp} {vs : List V} {ds : List D} (r : RpA H vs ds) : vs = [] ↔ ds = [] := by
  have := r.1
  constructor
  · intro h; subst h; simpa using this.symm
  · intro h; subst h; simpa using this
instance {K : PySem.W.Frag} : AbsR (rbAdd K) dbAdd := ⟨fun Hs Fr H x y a b Q C sf fh px py h k => by
  rcases h with ⟨i, j, rfl, rfl, h⟩ | ⟨xs, ys, rfl, rfl, hz, h⟩ | ⟨xs, ys, rfl, rfl, hz, h⟩
  · exact .inl ⟨i, j, px.int_inv, py.int_inv, k _ _ Hs Fr H (Gr.refl sf fh) (.int _) h⟩
  · obtain ⟨p, vs, rfl, e, q⟩ := px.tup_inv
    obtain ⟨p', ws, rfl, e', q'⟩ := py.tup_inv
    refine .inr (.inl ⟨p, p', vs, ws, rfl, rfl, SqT.of ((sf.trans fh) _ _ e), SqT.of ((sf.trans fh) _ _ e'), by rw [q.1, q'.1]; exact szl hz, fun hn => ?_, fun _ hn => ?_, fun _ _ l hl => ?_⟩)
    · subst hn
      have := q.isNil.mp rfl
      subst this
      exact k _ _ Hs Fr H (Gr.refl sf fh) (.tupA e' q') h
    · subst hn
      have := q'.isNil.mp rfl
      subst this
      exact k _ _ Hs Fr H (Gr.refl sf fh) (.tupA e (by rw [List.append_nil]; exact q)) h
    · have g := Gr.new sf fh hl (.tup (vs ++ ws))
      exact k _ _ _ _ _ g (.tupA upd_same ((q.append q').mono g.st.s)) h
  · obtain ⟨p, vs, rfl, e, q⟩ := px.lst_inv
    obtain ⟨p', ws, rfl, e', q'⟩ := py.lst_inv
    refine .inr (.inr ⟨p, p', vs, ws, rfl, rfl, (sf.trans fh) _ _ e, (sf.trans fh) _ _ e', by rw [q.1, q'.1]; exact szl hz, fun l hl => ?_⟩)
    have g := Gr.new sf fh hl (.lst (vs ++ ws))
    exact k _ _ _ _ _ g (.lstA upd_same ((q.append q').mono g.st.s)) h⟩
abbrev rMulI : R2 := rI CMul fun i j => .int (i * j)
abbrev rMulW : R2 := rI CMulW fun i j => .int (i * j)
def rbMul (K : PySem.W.Frag) : R2 := fun x y H Q => rMulI x y H Q ∨ (rMulW x y H Q ∨ (rRepU K x y H Q ∨ rRep x y H Q))
theorem ob_mul {X : Cx} : OpR X (binaryOp .Mult) (rbMul X.K) := op_mul.or (op_mulW.or (op_repU.or op_rep))
def dbMul : DR2 := fun x y C => (∃ i j, x = .int i ∧ y = .int j ∧ (CMul i j ∨ CMulW i j) ∧ C (.int (i * j))) ∨ (∃ xs k, x = .tup xs ∧ y = .int k ∧ xs ≠ [] ∧ 1 ≤ k ∧ k ≤ 1000 ∧ xs.length ≤ 1000 ∧ C (.tup (List.replicate k.toNat xs).flatten)) ∨
  (∃ xs k, x = .lst xs ∧ y = .int k ∧ -1000 ≤ k ∧ k ≤ 1000 ∧ xs.length ≤ 100 ∧ C (.lst (List.replicate k.toNat xs).flatten))
theorem RpA.rep {H : Hp} {vs : List V} {ds : List D} (r : RpA H vs ds) : ∀ n, RpA H (List.replicate n vs).flatten (List.replicate n ds).flatten
  | 0 => .nil
  | n + 1 => by
    rw [List.replicate_succ, List.replicate_succ, List.flatten_cons, List.flatten_cons] ; exact r.append (RpA.rep r n)
theorem rep_one {α : Type} (xs : List α) : (List.replicate (1 : Int).toNat xs).flatten = xs := by
  show (List.replicate 1 xs).flatten = xs
  simp
instance {K : PySem.W.Frag} : AbsR (rbMul K) dbMul := ⟨fun Hs Fr H x y a b Q C sf fh px py h k => by
  rcases h with ⟨i, j, rfl, rfl, hc, h⟩ | ⟨xs, n, rfl, rfl, hne, h1, h2, hz, h⟩ | ⟨xs, n, rfl, rfl, h1, h2, hz, h⟩
  · rcases hc with hc | hc
    · exact .inl ⟨i, j, px.int_inv, py.int_inv, hc, k _ _ Hs Fr H (Gr.refl sf fh) (.int _) h⟩
    · exact .inr (.inl ⟨i, j, px.int_inv, py.int_inv, hc, k _ _ Hs Fr H (Gr.refl sf fh) (.int _) h⟩)
  · obtain ⟨p, vs, rfl, e, q⟩ := px.tup_inv
    refine .inr (.inr (.inl ⟨p, n, vs, rfl, py.int_inv, SqT.of ((sf.trans fh) _ _ e), fun z => hne (q.isNil.mp z), h1, h2, by rw [q.1]; exact hz, fun hn => ?_, fun _ l hl => ?_⟩))
    · subst hn
      rw [rep_one] at h
      exact k _ _ Hs Fr H (Gr.refl sf fh) (.tupA e q) h
    · have g := Gr.new sf fh hl (.tup (List.replicate n.toNat vs).flatten)
      exact k _ _ _ _ _ g (.tupA upd_same ((q.rep _).mono g.st.s)) h
  · obtain ⟨p, vs, rfl, e, q⟩ := px.lst_inv
    refine .inr (.inr (.inr ⟨p, n, vs, rfl, py.int_inv, (sf.trans fh) _ _ e, by omega, by omega, ?_, fun l hl => ?_⟩))
    · rw [q.1]
      have : xs.length * n.toNat ≤ 100 * 1000 := Nat.mul_le_mul hz (by omega)
      exact szl (by omega)
    · have g := Gr.new sf fh hl (.lst (List.replicate n.toNat vs).flatten)
      exact k _ _ _ _ _ g (.lstA upd_same ((q.rep _).mono g.st.s)) h⟩
abbrev rDivI : R2 := rI CDivN fun i j => .int (i.fdiv j)
abbrev rDivW : R2 := rI CDivW fun i j => .int (i / j)
def rbFdiv : R2 := fun x y H Q => rDivI x y H Q ∨ rDivW x y H Q
theorem ob_fdiv {X : Cx} : OpR X (binaryOp .FloorDiv) rbFdiv := op_fdivN.or op_fdivW
def dbFdiv : DR2 := fun x y C => ∃ i j, x = .int i ∧ y = .int j ∧ ((CDivN i j ∧ C (.int (i.fdiv j))) ∨ (CDivW i j ∧ C (.int (i / j))))
instance : AbsR rbFdiv dbFdiv := ⟨fun Hs Fr H x y a b Q C sf fh px py h k => by
  obtain ⟨i, j, rfl, rfl, ⟨hc, h⟩ | ⟨hc, h⟩⟩ := h
  · exact .inl ⟨i, j, px.int_inv, py.int_inv, hc, k _ _ Hs Fr H (Gr.refl sf fh) (.int _) h⟩
  · exact .inr ⟨i, j, px.int_inv, py.int_inv, hc, k _ _ Hs Fr H (Gr.refl sf fh) (.int _) h⟩⟩
/-! xs[i], slices of any kind -/
theorem ix_any {X : Cx} : IxR X (fun x y H Q => rIxL X.K x y H Q ∨ rIxT X.K x y H Q) := ix_list.or ix_tup
def rSlQ (K : PySem.W.Frag) : V → Option Int → Option Int → Hp → VK → Prop := fun x lo hi H Q => rSlL K x lo hi H Q ∨ rSlA K x lo hi H Q
theorem sb_any {X : Cx} : SlR X (rSlQ X.K) := sl_list.or sl_tupA
def cutD (xs : List D) (lo hi : Option Int) : List D := (xs.drop (HT.sIx xs.length 0 lo)).take (HT.sIx xs.length xs.length hi - HT.sIx xs.length 0 lo)
def dPt (d : Option DE) (env : Env) (C : Option Int → Env → Prop) : Prop := match d with
  | none => C none env
  | some de => de env fun x env1 => ∃ i, x = .int i ∧ C (some i) env1
class AbsO (to : TO) (d : outParam (Option DE)) : Prop where
  run : ∀ (σ : L2.St) (Hs Fr H : Hp) (env : Env) (Q : Option Int → Hp → Prop) (C : Option Int → Env → Prop), EnvR Hs Fr H σ env → Same Hs Fr → Same Fr H → dPt d env C →
    (∀ o env' Hs' Fr' H', EnvR Hs' Fr' H' σ env' → Stp Hs Fr Hs' Fr' → Same Hs' Fr' → Same Fr' H' → C o env' → Q o H') → to σ H Q
instance : AbsO tNoPart none := ⟨fun σ Hs Fr H env Q C er sf fh h k => k none env Hs Fr H er (Stp.refl _ _) sf fh h⟩
instance {te : TE} {de : DE} [he : AbsE te de] : AbsO (tPart te) (some de) := ⟨fun σ Hs Fr H env Q C er sf fh h k => by
  refine he.run σ Hs Fr H env _ _ er sf fh h fun v d env1 Hs1 Fr1 H1 r1 s1 sf1 fh1 rv hc => ?_
  obtain ⟨i, rfl, c⟩ := hc
  exact ⟨i, rv.int_inv, k _ env1 Hs1 Fr1 H1 r1 s1 sf1 fh1 c⟩⟩
def dSl (de : DE) (lo hi : Option DE) : DE := fun env C => de env fun x env1 => dPt lo env1 fun l env2 => dPt hi env2 fun h env3 => (∃ xs, x = .lst xs ∧ C (.lst (cutD xs l h)) env3) ∨ (∃ xs, x = .tup xs ∧ C (.tup (cutD xs l h)) env3)
theorem RpA.drop {H : Hp} {vs : List V} {ds : List D} (r : RpA H vs ds) (n : Nat) : RpA H (vs.drop n) (ds.drop n) := ⟨by simp [r.1], fun i v d a b => r.2 (n + i) v d (by simpa using a) (by simpa using b)⟩
theorem RpA.take {H : Hp} {vs : List V} {ds : List D} (r : RpA H vs ds) (n : Nat) : RpA H (vs.take n) (ds.take n) := ⟨by simp [r.1], fun i v d a b => by
  by_cases hi : i < n
  · rw [List.getElem?_take_of_lt hi] at a b
    exact r.2 i v d a b
  · have : (vs.take n)[i]? = none := List.getElem?_eq_none (by simp; omega)
    rw [this] at a; cases a⟩
theorem RpA.cut {H : Hp} {vs : List V} {ds : List D} (r : RpA H vs ds) (lo hi : Option Int) : RpA H (cutV vs lo hi) (cutD ds lo hi) := by
  unfold cutV cutD
  rw [r.1]
  exact (r.drop _).take _
theorem cutD_whole {xs : List D} {lo hi : Option Int} (h : HT.sIx xs.length 0 lo = 0 ∧ HT.sIx xs.length xs.length hi = xs.length) : cutD xs lo hi = xs := by
  unfold cutD
  rw [h.1, h.2]
  simp
instance {K : PySem.W.Frag} {te : TE} {tl th : TO} {de : DE} {dl dh : Option DE} [he : AbsE te de] [hl : AbsO tl dl] [hh : AbsO th dh] : AbsE (tSl (rSlQ K) te tl th) (dSl de dl dh) := ⟨fun σ Hs Fr H env Q C er sf fh h k => by
  refine he.run σ Hs Fr H env _ _ er sf fh h fun v d env1 Hs1 Fr1 H1 r1 s1 sf1 fh1 rv h1 => ?_
  refine hl.run σ Hs1 Fr1 H1 env1 _ _ r1 sf1 fh1 h1 fun lo env2 Hs2 Fr2 H2 r2 s2 sf2 fh2 h2 => ?_
  refine hh.run σ Hs2 Fr2 H2 env2 _ _ r2 sf2 fh2 h2 fun hi env3 Hs3 Fr3 H3 r3 s3 sf3 fh3 h3 => ?_
  have rv3 := rv.mono (s2.s.trans s3.s)
  rcases h3 with ⟨xs, rfl, c⟩ | ⟨xs, rfl, c⟩
  · obtain ⟨p, vs, rfl, e, q⟩ := rv3.lst_inv
    refine .inl ⟨p, vs, rfl, SqL.of ((sf3.trans fh3) _ _ e), fun l hl' => ?_⟩
    have g := Gr.new sf3 fh3 hl' (.lst (cutV vs lo hi))
    exact k _ _ env3 _ _ _ (r3.gr g) (((s1.trans s2).trans s3).trans g.st) g.sf g.fh (.lstA upd_same ((q.cut lo hi).mono g.st.s)) c
  · obtain ⟨p, vs, rfl, e, q⟩ := rv3.tup_inv
    refine .inr ⟨p, vs, rfl, SqT.of ((sf3.trans fh3) _ _ e), fun hw => ?_, fun hw l hl' => ?_⟩
    · rw [q.1] at hw
      rw [cutD_whole hw] at c
      exact k _ _ env3 Hs3 Fr3 H3 r3 ((s1.trans s2).trans s3) sf3 fh3 (.tupA e q) c
    · have g := Gr.new sf3 fh3 hl' (.tup (cutV vs lo hi))
      exact k _ _ env3 _ _ _ (r3.gr g) (((s1.trans s2).trans s3).trans g.st) g.sf g.fh (.tupA upd_same ((q.cut lo hi).mono g.st.s)) c⟩
/-! built-ins under short names -/
theorem cl_abs {X : Cx} : CallR X (.builtin "abs") rAbs := call_abs
theorem cl_int {X : Cx} : CallR X (.type "int") rInt1 := by
  intro pins s σ H xs us Q I r h
  refine call_int1 pins s σ H xs us Q I r ?_
  rcases h with ⟨i, e, q⟩ | ⟨b, e, q⟩
  · exact .inl ⟨i, e, q⟩
  · refine .inr ⟨b, e, ?_⟩
    cases b <;> exact q
end Lf
set_option Elab.async false
set_option linter.all false
set_option maxRecDepth 100000
set_option maxHeartbeats 4000000
/-! zip and enumerate of lists and tuples, in any mix -/
namespace Lf
open PySem PySem.Spec PyProof.Rows L2 RZ
/-- enumerate(v) of one thing that is walked -/
theorem meets_enum_any {v : Value} {o : Obj} {H : Heap → Prop} (B : Begins v o H) :
    Meets (Builtin.«enumerate.__new__» ⟨[.type "enumerate", v], []⟩) (fun _ R st => H st.heap ∧
      R (.ok (.ret (.ref (st.heap.push o).objs.size)))
        { st with heap := (st.heap.push o).push { cls := .type "enumerate", data := .fields #[.none, .bool false, .ref st.heap.objs.size, rawInt 0, .none, .none] } }) :=
  .of_wp fun P0 w0 A0 R0 st h0 => by
    obtain ⟨hp, g, d, tk, os⟩ := st ; obtain ⟨h1, h⟩ := h0
    have hsub := sub_enumerate
    have q1 : ∀ {A' : Around} {E : Value → Shared → Prop} {Q : Value → Shared → Prop}, Q (.ref hp.objs.size) ⟨(hp.push o), g, d, tk, os⟩ → wpAny (model P0 w0) A' (pyIter v) Q E ⟨hp, g, d, tk, os⟩ :=
      fun q => B.iter P0 w0 _ _ ⟨hp, g, d, tk, os⟩ _ h1 q
    wp_walk
    refine wpAny_stack_any fun sk => wpAny_pure ?_
    split
    · rename_i c _ _ _ _ _
      cases (c == Value.type "enumerate")
      · wp_walk using q1
        exact ⟨_, rfl, h⟩
      · wp_walk using q1
        exact ⟨_, rfl, h⟩
    · wp_walk using q1
      exact ⟨_, rfl, h⟩
theorem enum_begins1 {prog : Program} {w : World} {A : Around} {E : Value → Shared → Prop} {s : Shared} {v : Value} {o : Obj} {H : Heap → Prop} {Q : Value → Shared → Prop} (B : Begins v o H) (h1 : H s.heap)
    (h : ∀ h', IsEnum h' (s.heap.objs.size + 1) s.heap.objs.size 0 .none → h'.get? s.heap.objs.size = some o → (∀ b u, s.heap.get? b = some u → h'.get? b = some u) → Q (.ref (s.heap.objs.size + 1)) { s with heap := h' }) :
    wpAny (model prog w) A (call (.type "enumerate") [v]) Q E s := by
  refine callType_new F.called_enumerate (by decide) (F.typeCall_enumerate_1 _) (F.newCall_enumerate_1 _) (fun obj => F.args_object_init_2 obj _) F.entry_enumerate_new (meets_enum_any B) ⟨h1, ?_⟩
  have hz : (s.heap.push o).objs.size = s.heap.objs.size + 1 := Heap.size_push ..
  have he := Heap.get?_push_size (s.heap.push o) (o := { cls := .type "enumerate", data := .fields #[.none, .bool false, .ref s.heap.objs.size, rawInt 0, .none, .none] }) rfl
  rw [hz] at he
  show _ ∧ _
  rw [hz]
  exact ⟨⟨_, he, rfl⟩, h _ he (Heap.get?_push_of_some _ (Heap.get?_push_size _ B.free)) fun b u e => Heap.get?_push_of_some _ (Heap.get?_push_of_some _ e)⟩
/-! a list (false) or a tuple (true) -/
def SqA (K : PySem.W.Frag) (b : Bool) (H : Hp) (a : Addr) (xs : List V) : Prop := if b then SqT K H a xs else SqL K H a xs
def rawA (b : Bool) (h : Heap) (a : Addr) (items : Array Value) : Prop := if b then h.IsTuple a items else h.IsList a items
def itA (b : Bool) (h : Heap) (it a : Addr) (i : Nat) : Prop := if b then h.IsTupleIter it a i else h.IsListIter it a i
def obA (b : Bool) (a : Addr) : Obj := { cls := .type (if b then "tuple_iterator" else "list_iterator"), data := .fields #[.ref a, .int 0 0] }
theorem draws_any {prog : Program} {w : World} {A : Around} (b : Bool) (hh : A.handled = none) (it a : Addr) (ne : a ≠ it) (items : Array Value) :
    Draws prog w A it [it, a] items.size (fun i v => items[i]? = some v) (fun i h => itA b h it a i ∧ rawA b h a items) := by
  cases b
  · exact Draws.list hh it a ne items
  · exact Draws.tuple hh it a ne items
theorem begins_any (b : Bool) (a : Addr) (items : Array Value) : Begins (.ref a) (obA b a) fun h => rawA b h a items := by
  cases b
  · exact begins_list a items
  · exact begins_tuple a items
theorem itA_first {b : Bool} {h : Heap} {it a : Addr} (e : h.get? it = some (obA b a)) : itA b h it a 0 := by
  cases b
  · exact ⟨_, e, rfl, rfl⟩
  · exact ⟨_, e, rfl, rfl⟩
theorem itA_obj {b : Bool} {h : Heap} {it a : Addr} {i : Nat} (e : itA b h it a i) : ∃ o, h.get? it = some o ∧ ∀ v, o.data ≠ .cell v := by
  cases b
  · obtain ⟨o, e1, _, d1⟩ := e; exact ⟨o, e1, fun v q => by rw [d1] at q; cases q⟩
  · obtain ⟨o, e1, _, d1⟩ := e; exact ⟨o, e1, fun v q => by rw [d1] at q; cases q⟩
theorem itA_keep {b : Bool} {h h' : Heap} {it a : Addr} {i : Nat} (e : itA b h it a i) (k : ∀ o, h.get? it = some o → h'.get? it = some o) : itA b h' it a i := by
  cases b
  · obtain ⟨o, e1, c1, d1⟩ := e; exact ⟨o, k o e1, c1, d1⟩
  · obtain ⟨o, e1, c1, d1⟩ := e; exact ⟨o, k o e1, c1, d1⟩
section
variable {X : Cx} {pins : List (Addr × Obj)} {σ : L2.St} {H : Hp} {s : Shared} {a : Addr} {xs ys : List V} {b : Bool}
theorem seq_any (I : Inv X pins σ H s) (h : SqA X.K b H a xs) : ∃ its : List Value, Vals xs its ∧ rawA b s.heap a its.toArray := by
  cases b
  · obtain ⟨its, rv, p, _⟩ := I.list h
    exact ⟨its, rv, p.isList⟩
  · obtain ⟨its, rv, p, _⟩ := I.tuple h
    exact ⟨its, rv, p⟩
theorem seq_inj (I : Inv X pins σ H s) (h : SqA X.K b H a xs) (h' : SqA X.K b H a ys) : xs = ys := by
  cases b
  · exact I.list_inj h h'
  · exact I.tuple_inj h h'
theorem raw_lt {h : Heap} {items : Array Value} (p : rawA b h a items) : a < h.objs.size := by
  cases b
  · obtain ⟨o, e, _⟩ := p; exact Heap.lt_size e
  · obtain ⟨o, e, _⟩ := p; exact Heap.lt_size e
end
/-! ### zip -/
def ItZ (K : PySem.W.Frag) (p q : Bool) (a b : Addr) : It :=
  ⟨fun i H => ∃ (xs ys : List V), SqA K p H a xs ∧ SqA K q H b ys ∧ i < xs.length ∧ i < ys.length,
    fun i H v H' => ∃ T x y, v = .ref T ∧ H T = none ∧ H' = upd H T (.tup [x, y]) ∧ (∀ xs, SqA K p H a xs → xs[i]? = some x) ∧ ∀ ys, SqA K q H b ys → ys[i]? = some y,
    fun i H => ∃ xs ys : List V, SqA K p H a xs ∧ SqA K q H b ys ∧ i ≤ xs.length ∧ i ≤ ys.length ∧ (i = xs.length ∨ i = ys.length)⟩
theorem turn_Z {P : Program} {w : World} {K : PySem.W.Frag} {elts : List Expr} {kk : Nat} {tpos : Pos} {p q : Bool} {a b z TI TO i1 i2 : Addr} (S : ZipSep2 z TI TO i1 i2 [i1, a] [i2, b]) (n1 : a ≠ i1) (n2 : b ≠ i2) :
    Turn P w K (.Tuple elts kk tpos) (ItZ K p q a b) [z, TI, TO, i1, i2] z (fun i h => IsZip h z TI TO .none ∧ IsTupOf2 h TI (.ref i1) (.ref i2) ∧ (∃ x y, IsTupOf2 h TO x y) ∧ itA p h i1 a i ∧ itA q h i2 b i) where
  mem := by simp
  obj := fun i h st c hc => by
    obtain ⟨hz, hTI, ⟨x, y, hTO⟩, h1, h2⟩ := st
    have e' : c = z ∨ c = TI ∨ c = TO ∨ c = i1 ∨ c = i2 := by simpa using hc
    rcases e' with u | u | u | u | u
    · rw [u]; exact ⟨_, hz, fun v q => nomatch q⟩
    · rw [u]; exact ⟨_, hTI, fun v q => nomatch q⟩
    · rw [u]; exact ⟨_, hTO, fun v q => nomatch q⟩
    · rw [u]; exact itA_obj h1
    · rw [u]; exact itA_obj h2
  keep := fun i h h' st k => by
    obtain ⟨hz, hTI, ⟨x, y, hTO⟩, h1, h2⟩ := st
    exact ⟨k z (by simp) _ hz, k TI (by simp) _ hTI, ⟨x, y, k TO (by simp) _ hTO⟩, itA_keep h1 fun o q => k i1 (by simp) o q, itA_keep h2 fun o q => k i2 (by simp) o q⟩
  item := by
    intro X hP hw hK hc i pins s σ H E I hf st hg
    subst hP hw hK
    obtain ⟨hz, hTI, ⟨x0, y0, hTO⟩, h1, h2⟩ := st
    obtain ⟨xs, ys, qx, qy, lx, ly⟩ := hg
    obtain ⟨its, rv, r1⟩ := seq_any I qx
    obtain ⟨its2, rv2, r2⟩ := seq_any I qy
    have l1 := rv.length
    have l2 := rv2.length
    have hzl : z < s.heap.objs.size := Heap.lt_size hz
    have hh := I.ok.hd hc
    have D1 := draws_any (prog := X.prog) (w := X.w) (A := X.A.in1) p (I.ok.hd hc) i1 a n1 its.toArray
    have D2 := draws_any (prog := X.prog) (w := X.w) (A := X.A.in1) q (I.ok.hd hc) i2 b n2 its2.toArray
    refine wpAny_pyNext_zipD2_item S D1 D2 hz hTI hTO ⟨h1, r1⟩ ⟨h2, r2⟩ (by simp; omega) (by simp; omega) fun u u2 h' tk e1 e2 z' TO' s1 s2 hT hsz hk => ?_
    have lx' : i < its.length := by omega
    have ly' : i < its2.length := by omega
    obtain ⟨x, hx⟩ : ∃ x, xs[i]? = some x := ⟨_, List.getElem?_eq_getElem lx⟩
    obtain ⟨y, hy⟩ : ∃ y, ys[i]? = some y := ⟨_, List.getElem?_eq_getElem ly⟩
    obtain ⟨w1, hw1, ru⟩ := rv.get hx
    obtain ⟨w2, hw2, ru2⟩ := rv2.get hy
    have f1 : u = w1 := by
      have e1' : its[i]? = some u := by simpa using e1
      rw [hw1] at e1'; exact (Option.some.inj e1').symm
    have f2 : u2 = w2 := by
      have e2' : its2[i]? = some u2 := by simpa using e2
      rw [hw2] at e2'; exact (Option.some.inj e2').symm
    subst f1 f2
    refine ⟨_, rfl, wpAny_letOwnedTupleGo_zip (s := { s with heap := h', toks := tk }) z' fun h'' z'' sb => ?_⟩
    have hT2 : h''.get? s.heap.objs.size = some { cls := .type "tuple", data := .seq #[u, u2] } := (sb.2 _ (Nat.ne_of_gt hzl)).trans hT
    have new : ObjOk X.prog X.w (upd H s.heap.objs.size (.tup [x, y])) h'' s.heap.objs.size (.tup [x, y]) :=
      ⟨by show 2 ≤ sizeLine; decide, [u, u2], .cons ru (.cons ru2 .nil), ⟨_, hT2, rfl, _, rfl⟩⟩
    have I1 : Inv X pins σ (upd H s.heap.objs.size (.tup [x, y])) { s with heap := h'', toks := tk } :=
      I.turnedNew (t' := tk) (ch := [z, TI, TO, i1, i2]) (fun c o hb e => (sb.2 c (fun q' => hb (by simp [q']))).trans (hk c o (fun q' => hb (by simp [q'])) (fun q' => hb (by simp [q'])) (fun q' => hb (by simp [q'])) (fun q' => hb (by simp [q'])) e)) hf (Nat.le_refl _) new
    have zi1 : i1 ≠ z := fun e => S.zf1 (by simp [e])
    have zi2 : i2 ≠ z := fun e => S.zf2 (by simp [e])
    have Ti1 : i1 ≠ TO := fun e => S.Tf1 (by simp [e])
    have Ti2 : i2 ≠ TO := fun e => S.Tf2 (by simp [e])
    have hTI' : h'.get? TI = _ := hk TI _ S.TIz S.TITO S.TIi1 S.TIi2 hTI
    refine ⟨.ref s.heap.objs.size, _, I1, rfl, ⟨_, x, y, rfl, I.hok.fresh (Nat.le_refl _), rfl, fun l hl => by rw [seq_inj I hl qx]; exact hx, fun l hl => by rw [seq_inj I hl qy]; exact hy⟩, ⟨z'', ?_, ⟨u, u2, ?_⟩, ?_, ?_⟩, fun c hcm => ?_⟩
    · exact (sb.2 _ S.TIz).trans hTI'
    · exact (sb.2 _ S.TOz).trans TO'
    · exact itA_keep s1.1 fun o e => (sb.2 _ zi1).trans e
    · exact itA_keep s2.1 fun o e => (sb.2 _ zi2).trans e
    · have hlt : c < s.heap.objs.size := by
        have e' : c = z ∨ c = TI ∨ c = TO ∨ c = i1 ∨ c = i2 := by simpa using hcm
        rcases e' with e | e | e | e | e
        · rw [e]; exact hzl
        · rw [e]; exact Heap.lt_size hTI
        · rw [e]; exact Heap.lt_size hTO
        · rw [e]; obtain ⟨_, e1, _⟩ := itA_obj h1; exact Heap.lt_size e1
        · rw [e]; obtain ⟨_, e2, _⟩ := itA_obj h2; exact Heap.lt_size e2
      rw [upd_ne (Nat.ne_of_lt hlt)]
      exact (hf c hcm).1
  done := by
    intro X hP hw hK hc i pins s σ H E I hf st hg
    subst hP hw hK
    obtain ⟨hz, hTI, ⟨x0, y0, hTO⟩, h1, h2⟩ := st
    obtain ⟨xs, ys, qx, qy, le1, le2, hend⟩ := hg
    obtain ⟨its, rv, r1⟩ := seq_any I qx
    obtain ⟨its2, rv2, r2⟩ := seq_any I qy
    have l1 := rv.length
    have l2 := rv2.length
    have D1 := draws_any (prog := X.prog) (w := X.w) (A := X.A.in1) p (I.ok.hd hc) i1 a n1 its.toArray
    have D2 := draws_any (prog := X.prog) (w := X.w) (A := X.A.in1) q (I.ok.hd hc) i2 b n2 its2.toArray
    exact wpAny_pyNext_zipD2_end S D1 D2 hz hTI hTO ⟨h1, r1⟩ ⟨h2, r2⟩ (by simp; omega) (by simp; omega) (by simp; omega) fun h' tk hk => ⟨rfl, I.turnedL (t' := tk) (ch := [z, TI, TO, i1, i2]) (fun c o hb e =>
      hk c o (fun q' => hb (by simp [q'])) (fun q' => hb (by simp [q'])) (fun q' => hb (by simp [q'])) (fun q' => hb (by simp [q'])) e) hf⟩
  self := fun A i s Q E st h => wpAny_pyIter_zip st.1 h
def iZipS (K : PySem.W.Frag) (ta : TA) : TI := fun σ H R => ta σ H fun vs H1 => ∃ a b p q xs ys, vs = [.ref a, .ref b] ∧ SqA K p H1 a xs ∧ SqA K q H1 b ys ∧ R (ItZ K p q a b) H1
theorem pi_zipS {X : Cx} {e e2 : Expr} {ta : TA} {p pos tpos : Pos} {elts : List Expr} {kk : Nat} (hg : Gl X "zip") (hm : X.mg "zip" = none) (ha : PA X [e, e2] ta)
    (hs : starEach [e, e2] X.env = (false, eval e X.env) :: starEach [e2] X.env := by rfl) (hpl : (backTo pos (starEach [e2] X.env)).any (·.1) = false := by rfl) :
    PI X (.Tuple elts kk tpos) (.Call (.Name "zip" p) [e, e2] [] pos) (iZipS X.K ta) := by
  refine ⟨fun pins s σ H R I h => ?_⟩
  refine Call_ (ld_blt I hg hm PyProof.Rows.boot_zip (PyProof.Rows.callWith_type1 (thn (ha.run pos pins s σ H _ I h) fun us s1 ⟨vs, H1, I1, rr, q1⟩ => ?_) hs hpl))
  obtain ⟨a, b, p1, p2, xs, ys, ex, qx, qy, q⟩ := q1
  subst ex
  cases rr with
  | cons ra rr =>
    cases rr with
    | cons rb rr =>
      cases rr; cases ra; cases rb
      obtain ⟨its, rv, r1⟩ := seq_any I1 qx
      obtain ⟨its2, rv2, r2⟩ := seq_any I1 qy
      refine zip_begins2 (begins_any p1 a its.toArray) (begins_any p2 b its2.toArray) r1 r2 fun h' hz hTI hTO g1 g2 hsz hk => wpAny_pyIter_zip hz ?_
      have la := raw_lt r1
      have lb := raw_lt r2
      have S : ZipSep2 (s1.heap.objs.size + 4) (s1.heap.objs.size + 2) (s1.heap.objs.size + 3) s1.heap.objs.size (s1.heap.objs.size + 1) [s1.heap.objs.size, a] [s1.heap.objs.size + 1, b] :=
        zip_sep2 (fp1 := [a]) (fp2 := [b]) (by simpa using la) (by simpa using lb)
      refine ⟨s1.heap.objs.size + 4, [s1.heap.objs.size + 4, s1.heap.objs.size + 2, s1.heap.objs.size + 3, s1.heap.objs.size, s1.heap.objs.size + 1], _, _, H1, rfl, I1.kept (t' := s1.toks) hk, turn_Z S (Nat.ne_of_lt la) (Nat.ne_of_lt (Nat.lt_succ_of_lt lb)),
        ⟨hz, hTI, ⟨_, _, hTO⟩, itA_first g1, itA_first g2⟩, fun c hcm => ?_, q⟩
      have hle : s1.heap.objs.size ≤ c := by
        have e' : c = s1.heap.objs.size + 4 ∨ c = s1.heap.objs.size + 2 ∨ c = s1.heap.objs.size + 3 ∨ c = s1.heap.objs.size ∨ c = s1.heap.objs.size + 1 := by simpa using hcm
        rcases e' with z | z | z | z | z <;> rw [z] <;> first | exact Nat.le_add_right _ _ | exact Nat.le_refl _
      exact I1.fpOk hle (I1.hok.fresh hle)
/-! ### enumerate -/
def ItE (K : PySem.W.Frag) (p : Bool) (a : Addr) : It :=
  ⟨fun i H => ∃ xs : List V, SqA K p H a xs ∧ i < xs.length,
    fun i H v H' => ∃ T x, v = .ref T ∧ H T = none ∧ H' = upd H T (.tup [.int (i : Nat), x]) ∧ ∀ xs, SqA K p H a xs → xs[i]? = some x,
    fun i H => ∃ xs : List V, SqA K p H a xs ∧ i = xs.length⟩
theorem turn_E {P : Program} {w : World} {K : PySem.W.Frag} {elts : List Expr} {kk : Nat} {tpos : Pos} {p : Bool} {a e it : Addr} (n1 : a ≠ it) (n2 : e ≠ it) (n3 : e ≠ a) :
    Turn P w K (.Tuple elts kk tpos) (ItE K p a) [e, it] e (fun i h => (∃ old, IsEnum h e it ((i : Nat) : Int) old) ∧ itA p h it a i) where
  mem := by simp
  obj := fun i h st c hc => by
    obtain ⟨⟨old, he⟩, h1⟩ := st
    have e' : c = e ∨ c = it := by simpa using hc
    rcases e' with u | u
    · rw [u]; exact ⟨_, he, fun v q => nomatch q⟩
    · rw [u]; exact itA_obj h1
  keep := fun i h h' st k => by
    obtain ⟨⟨old, he⟩, h1⟩ := st
    exact ⟨⟨old, k e (by simp) _ he⟩, itA_keep h1 fun o q => k it (by simp) o q⟩
  item := by
    intro X hP hw hK hc i pins s σ H E I hf st hg
    subst hP hw hK
    obtain ⟨⟨old, he⟩, h1⟩ := st
    obtain ⟨xs, qx, lx⟩ := hg
    obtain ⟨its, rv, r1⟩ := seq_any I qx
    have l1 := rv.length
    have hel : e < s.heap.objs.size := Heap.lt_size he
    have D1 := draws_any (prog := X.prog) (w := X.w) (A := X.A.in1) p (I.ok.hd hc) it a n1 its.toArray
    refine wpAny_pyNext_enum_itemC D1 he ⟨h1, r1⟩ (by simp; omega) n2 (by simp; exact ⟨n2, n3⟩) fun u h' tk e1 ho s1 hT hsz hk => ?_
    obtain ⟨x, hx⟩ : ∃ x, xs[i]? = some x := ⟨_, List.getElem?_eq_getElem lx⟩
    obtain ⟨w1, hw1, ru⟩ := rv.get hx
    have f1 : u = w1 := by
      have e1' : its[i]? = some u := by simpa using e1
      rw [hw1] at e1'; exact (Option.some.inj e1').symm
    subst f1
    have ei : ((i + 1 : Nat) : Int) = (i : Int) + 1 := by omega
    refine ⟨_, rfl, wpAny_letOwnedTupleGo_enum (s := { s with heap := h', toks := tk + 1 }) ho fun h'' he' sb => ?_⟩
    have hT2 : h''.get? s.heap.objs.size = some { cls := .type "tuple", data := .seq #[.int i tk, u] } := (sb.2 _ (Nat.ne_of_gt hel)).trans hT
    have new : ObjOk X.prog X.w (upd H s.heap.objs.size (.tup [.int (i : Nat), x])) h'' s.heap.objs.size (.tup [.int (i : Nat), x]) :=
      ⟨by show 2 ≤ sizeLine; decide, [.int i tk, u], .cons ⟨_, rfl⟩ (.cons ru .nil), ⟨_, hT2, rfl, _, rfl⟩⟩
    have I1 : Inv X pins σ (upd H s.heap.objs.size (.tup [.int (i : Nat), x])) { s with heap := h'', toks := tk + 1 } :=
      I.turnedNew (t' := tk + 1) (ch := [e, it]) (fun c o hb q => (sb.2 c (fun q' => hb (by simp [q']))).trans (hk c o (fun q' => hb (by simp [q'])) (fun q' => hb (by simp [q'])) q)) hf (Nat.le_refl _) new
    refine ⟨.ref s.heap.objs.size, _, I1, rfl, ⟨_, x, rfl, I.hok.fresh (Nat.le_refl _), rfl, fun l hl => by rw [seq_inj I hl qx]; exact hx⟩, ⟨⟨u, ?_⟩, ?_⟩, fun c hcm => ?_⟩
    · rw [ei]; exact he'
    · exact itA_keep s1.1 fun o q => (sb.2 _ (Ne.symm n2)).trans q
    · have hlt : c < s.heap.objs.size := by
        have e' : c = e ∨ c = it := by simpa using hcm
        rcases e' with z | z
        · rw [z]; exact hel
        · rw [z]; obtain ⟨_, e1, _⟩ := itA_obj h1; exact Heap.lt_size e1
      rw [upd_ne (Nat.ne_of_lt hlt)]
      exact (hf c hcm).1
  done := by
    intro X hP hw hK hc i pins s σ H E I hf st hg
    subst hP hw hK
    obtain ⟨⟨old, he⟩, h1⟩ := st
    obtain ⟨xs, qx, le1⟩ := hg
    obtain ⟨its, rv, r1⟩ := seq_any I qx
    have l1 := rv.length
    have D1 := draws_any (prog := X.prog) (w := X.w) (A := X.A.in1) p (I.ok.hd hc) it a n1 its.toArray
    have st' : itA p s.heap it a its.toArray.size ∧ rawA p s.heap a its.toArray := by
      have : its.toArray.size = i := by simp; omega
      rw [this]; exact ⟨h1, r1⟩
    exact wpAny_pyNext_enum_endD D1 he st' fun h' eb => ⟨rfl, I.turnedL (t' := s.toks) (ch := [e, it]) (fun c o hb q => eb c o (fun q' => hb (by simp [q'])) q) hf⟩
  self := fun A i s Q E st h => let ⟨⟨_, he⟩, _⟩ := st; wpAny_pyIter_enum he h
def iEnumS (K : PySem.W.Frag) (ta : TA) : TI := fun σ H R => ta σ H fun vs H1 => ∃ a p xs, vs = [.ref a] ∧ SqA K p H1 a xs ∧ R (ItE K p a) H1
theorem pi_enumS {X : Cx} {e : Expr} {ta : TA} {p pos tpos : Pos} {elts : List Expr} {kk : Nat} (hg : Gl X "enumerate") (hm : X.mg "enumerate" = none) (ha : PA X [e] ta) (hs : starEach [e] X.env = [(false, eval e X.env)] := by rfl) :
    PI X (.Tuple elts kk tpos) (.Call (.Name "enumerate" p) [e] [] pos) (iEnumS X.K ta) := by
  refine ⟨fun pins s σ H R I h => ?_⟩
  refine Call_ (ld_blt I hg hm boot_enumerate (PyProof.Rows.callWith_type1 (thn (ha.run pos pins s σ H _ I h) fun us s1 ⟨vs, H1, I1, rr, q1⟩ => ?_) hs rfl))
  obtain ⟨a, p1, xs, ex, qx, q⟩ := q1
  subst ex
  cases rr with
  | cons ra rr =>
    cases rr; cases ra
    obtain ⟨its, rv, r1⟩ := seq_any I1 qx
    have la := raw_lt r1
    refine enum_begins1 (begins_any p1 a its.toArray) r1 fun h' he g1 hk => wpAny_pyIter_enum he ?_
    refine ⟨s1.heap.objs.size + 1, [s1.heap.objs.size + 1, s1.heap.objs.size], _, _, H1, rfl, I1.kept (t' := s1.toks) hk, turn_E (Nat.ne_of_lt la) (Nat.succ_ne_self _) (Nat.ne_of_gt (Nat.lt_succ_of_lt la)), ⟨⟨_, he⟩, itA_first g1⟩, fun c hcm => ?_, q⟩
    have hle : s1.heap.objs.size ≤ c := by
      have e' : c = s1.heap.objs.size + 1 ∨ c = s1.heap.objs.size := by simpa using hcm
      rcases e' with z | z <;> rw [z] <;> first | exact Nat.le_add_right _ _ | exact Nat.le_refl _
    exact I1.fpOk hle (I1.hok.fresh hle)
/-! ### what they feed -/
def D.seq? : D → Option (Bool × List D)
  | .lst xs => some (false, xs)
  | .tup xs => some (true, xs)
  | _ => none
theorem seq_rp {K : PySem.W.Frag} {Hs : Hp} {v : V} {x : D} {xs : List D} {p : Bool} (rv : Rp Hs v x) (e : x.seq? = some (p, xs)) : ∃ a vs, v = .ref a ∧ RpA Hs vs xs ∧ ∀ H, Same Hs H → SqA K p H a vs := by
  cases x <;> simp [D.seq?] at e
  · obtain ⟨rfl, rfl⟩ := e
    obtain ⟨a, us, rfl, ha, qa⟩ := rv.lst_inv
    exact ⟨a, us, rfl, qa, fun H sm => SqL.of (sm _ _ ha)⟩
  · obtain ⟨rfl, rfl⟩ := e
    obtain ⟨a, us, rfl, ha, qa⟩ := rv.tup_inv
    exact ⟨a, us, rfl, qa, fun H sm => SqT.of (sm _ _ ha)⟩
theorem feeds_Z {K : PySem.W.Frag} {Hs Fr : Hp} {p r : Bool} {a b : Addr} {vs ws : List V} {ds es : List D} (sf : Same Hs Fr) (h : ∀ H, Same Hs H → SqA K p H a vs) (q : RpA Hs vs ds) (h2 : ∀ H, Same Hs H → SqA K r H b ws) (q2 : RpA Hs ws es) : Feeds Hs Fr (ItZ K p r a b) (zipD ds es) := by
  have l1 := q.1
  have l2 := q2.1
  have len : (zipD ds es).length = min ds.length es.length := by simp [zipD]
  refine ⟨fun i H hi fh => ?_, fun i H hi fh => ?_, fun Hs2 Fr2 H i x H' s f sf2 fh hi y => ?_⟩
  · exact ⟨vs, ws, h _ (sf.trans fh), h2 _ (sf.trans fh), by omega, by omega⟩
  · exact ⟨vs, ws, h _ (sf.trans fh), h2 _ (sf.trans fh), by omega, by omega, by omega⟩
  · obtain ⟨T, x1, y1, rfl, hT, rfl, f1, f2⟩ := y
    obtain ⟨d, hd, rd⟩ := q.at (f1 vs (h _ ((sf.trans f).trans fh)))
    obtain ⟨e, he, re⟩ := q2.at (f2 ws (h2 _ ((sf.trans f).trans fh)))
    obtain ⟨g, r⟩ := pair_gr sf2 fh hT (rd.mono s) (re.mono s)
    exact ⟨.tup [d, e], _, _, zipD_at hd he, g, r⟩
def diZipS (da : DA) : DI := fun env C => da env fun as env1 => ∃ x y p q xs ys, as = [x, y] ∧ x.seq? = some (p, xs) ∧ y.seq? = some (q, ys) ∧ C (zipD xs ys) env1
instance {K : PySem.W.Frag} {ta : TA} {da : DA} [h : AbsA ta da] : AbsI (iZipS K ta) (diZipS da) := ⟨fun σ Hs Fr H env R C er sf fh hd k => by
  refine h.run σ Hs Fr H env _ _ er sf fh hd fun vs as env1 Hs1 Fr1 H1 r1 s1 sf1 fh1 p1 h1 => ?_
  obtain ⟨x, y, p, q, xs, ys, rfl, e1, e2, h1⟩ := h1
  obtain ⟨v, w, rfl, rv, rw'⟩ := p1.two
  obtain ⟨a, us, rfl, qa, ha⟩ := seq_rp (K := K) rv e1
  obtain ⟨b, ws, rfl, qb, hb⟩ := seq_rp (K := K) rw' e2
  exact ⟨a, b, p, q, us, ws, rfl, ha _ (sf1.trans fh1), hb _ (sf1.trans fh1), k _ _ env1 Hs1 Fr1 H1 r1 s1 sf1 fh1 (feeds_Z sf1 ha qa hb qb) h1⟩⟩
theorem feeds_E {K : PySem.W.Frag} {Hs Fr : Hp} {p : Bool} {a : Addr} {vs : List V} {ds : List D} (sf : Same Hs Fr) (h : ∀ H, Same Hs H → SqA K p H a vs) (q : RpA Hs vs ds) : Feeds Hs Fr (ItE K p a) (enumD ds) := by
  have l1 := q.1
  have len := enumD_len ds
  refine ⟨fun i H hi fh => ?_, fun i H hi fh => ?_, fun Hs2 Fr2 H i x H' s f sf2 fh hi y => ?_⟩
  · exact ⟨vs, h _ (sf.trans fh), by omega⟩
  · exact ⟨vs, h _ (sf.trans fh), by omega⟩
  · obtain ⟨T, x1, rfl, hT, rfl, f1⟩ := y
    obtain ⟨d, hd, rd⟩ := q.at (f1 vs (h _ ((sf.trans f).trans fh)))
    obtain ⟨g, r⟩ := pair_gr sf2 fh hT (Rp.int (H := Hs2) ((i : Nat) : Int)) (rd.mono s)
    exact ⟨_, _, _, enumD_at hd, g, r⟩
def diEnumS (da : DA) : DI := fun env C => da env fun as env1 => ∃ x p xs, as = [x] ∧ x.seq? = some (p, xs) ∧ C (enumD xs) env1
instance {K : PySem.W.Frag} {ta : TA} {da : DA} [h : AbsA ta da] : AbsI (iEnumS K ta) (diEnumS da) := ⟨fun σ Hs Fr H env R C er sf fh hd k => by
  refine h.run σ Hs Fr H env _ _ er sf fh hd fun vs as env1 Hs1 Fr1 H1 r1 s1 sf1 fh1 p1 h1 => ?_
  obtain ⟨x, p, xs, rfl, e1, h1⟩ := h1
  obtain ⟨v, rfl, rv⟩ := p1.one
  obtain ⟨a, us, rfl, qa, ha⟩ := seq_rp (K := K) rv e1
  exact ⟨a, p, us, rfl, ha _ (sf1.trans fh1), k _ _ env1 Hs1 Fr1 H1 r1 s1 sf1 fh1 (feeds_E sf1 ha qa) h1⟩⟩
end Lf
set_option Elab.async false
set_option linter.all false
set_option maxRecDepth 100000
set_option maxHeartbeats 4000000
namespace Lf
open PySem PySem.Spec PyProof.Rows L2 RZ
/-! a chain of two comparisons -/
instance {r r' : R2} {ta tb tc : TE} {dr dr' : DR2} {da db dc : DE} [hr : AbsR r dr] [hr' : AbsR r' dr'] [ha : AbsE ta da] [hb : AbsE tb db] [hc : AbsE tc dc] : AbsE (tChain r r' ta tb tc) (dChain dr dr' da db dc) := ⟨fun σ Hs Fr H env Q C er sf fh hd k => by
  refine ha.run σ Hs Fr H env _ _ er sf fh hd fun x a env1 Hs1 Fr1 H1 r1 s1 sf1 fh1 p1 h1 => ?_
  refine hb.run σ Hs1 Fr1 H1 env1 _ _ r1 sf1 fh1 h1 fun y b env2 Hs2 Fr2 H2 r2 s2 sf2 fh2 p2 h2 => ?_
  refine hr.run Hs2 Fr2 H2 x y a b _ _ sf2 fh2 (p1.mono s2.s) p2 h2 fun z c Hs3 Fr3 H3 g3 p3 h3 => ?_
  obtain ⟨kk, rfl, h3⟩ := h3
  refine ⟨kk, p3.bl_inv, ?_⟩
  cases kk with
  | true =>
    simp only [if_true] at h3 ⊢
    refine hc.run σ Hs3 Fr3 H3 env2 _ _ (r2.gr g3) g3.sf g3.fh h3 fun w d env4 Hs4 Fr4 H4 r4 s4 sf4 fh4 p4 h4 => ?_
    refine hr'.run Hs4 Fr4 H4 y w b d _ _ sf4 fh4 ((p2.mono g3.st.s).mono s4.s) p4 h4 fun u e Hs5 Fr5 H5 g5 p5 h5 => ?_
    exact k u e env4 Hs5 Fr5 H5 (r4.gr g5) ((((s1.trans s2).trans g3.st).trans s4).trans g5.st) g5.sf g5.fh p5 h5
  | false =>
    simp only [Bool.false_eq_true, if_false] at h3 ⊢
    exact k _ _ env2 Hs3 Fr3 H3 (r2.gr g3) ((s1.trans s2).trans g3.st) g3.sf g3.fh (.bl false) h3⟩
/-! the defs of a text, by name -/
def Fn (P : Program) (w : World) (K : PySem.W.Frag) (mg : Str → Option Value) (base : Heap) (k : Nat) (x : Str) (ps : List Str) (sp : Sp) : Prop :=
  (∃ fd, FnOk P w K mg base CX0 k (He.ga K x) fd ps sp ∧ Binds K fd ps []) ∧ mg x = some (.ref (He.ga K x)) ∧ PySem.W.keepIn K (.ref (He.ga K x)) = true
section
variable {X : Cx} {k : Nat} {x : Str} {ps : List Str} {sp : Sp} {p pos : Pos} {e : Expr} {es : List Expr} {t : TA}
theorem pe_f (F : Fn X.prog X.w X.K X.mg X.base k x ps sp) (hr : Room k X.A) (hg : Gl X x) (ha : PA X (e :: es) t) (hdb : (x == ("__debug__" : Str)) = false := by decide)
    (he : starEach (e :: es) X.env = (false, eval e X.env) :: starEach es X.env := by rfl) (hpl : (backTo pos (starEach es X.env)).any (·.1) = false := by rfl) : PE X (.Call (.Name x p) (e :: es) [] pos) (tCall sp [] E0 t) := by
  obtain ⟨⟨fd, G, b⟩, hm, hk⟩ := F
  exact pe_call G hr hg hm hk b .nil pass0 ha hdb he hpl
theorem pe_fO (F : Fn X.prog X.w X.K X.mg X.base k x ps sp) (hr : Room k X.A) (hg : Gl X x) (i : Nat) (ha : PA X (e :: es) (tCons (tVar i) t)) (hdb : (x == ("__debug__" : Str)) = false := by decide)
    (he : starEach (e :: es) X.env = (false, eval e X.env) :: starEach es X.env := by rfl) (hpl : (backTo pos (starEach es X.env)).any (·.1) = false := by rfl) : PE X (.Call (.Name x p) (e :: es) [] pos) (tCallO sp i E0 t) := pe_f F hr hg ha hdb he hpl
end
structure TopX (P : Program) (w : World) (fa : List He.Fa) (fn : List He.DefD) (K : PySem.W.Frag) (mg : Str → Option Value) : Prop where
  says : He.SaysD fa fn K
  glo : ∀ x, He.Fa.glo x ∈ fa → mg x = some (.ref (He.ga K x))
  free : ∀ x, He.Fa.free x ∈ fa → mg x = none
  gcd : mg ("gcd" : Str) = some (.builtin "math.gcd")
def gcdB (K : PySem.W.Frag) : Bool := He.eqO (PySem.W.nsIn K mainGlobals ("gcd" : Str)) (some (some (.builtin "math.gcd")))
theorem TopX.of {P : Program} {w : World} {fa : List He.Fa} {fn : List He.DefD} {h : Heap} {K : PySem.W.Frag} {mg : Str → Option Value} (X : K.In h) (G : h.Ns mainGlobals mg) (c : He.SaysX fa fn [] [] gcdB w h K) : TopX P w fa fn K mg :=
  ⟨c.t.d, fun x hx => He.glo_ok X G (c.t.d.facts hx), fun x hx => He.free_ok X G (c.t.d.facts hx), PySem.W.mg_of X G (He.eqO_ok c.more)⟩
/-- the facts of a text: its globals, names that it leaves to the built-ins -/
def namesOf (xs ys : List Str) (zs : List He.Fa) : List He.Fa := xs.map .glo ++ (ys.map .free ++ zs)
theorem mem_glo {xs ys : List Str} {zs : List He.Fa} {x : Str} (h : x ∈ xs) : He.Fa.glo x ∈ namesOf xs ys zs := List.mem_append_left _ (List.mem_map_of_mem h)
theorem mem_free {xs ys : List Str} {zs : List He.Fa} {x : Str} (h : x ∈ ys) : He.Fa.free x ∈ namesOf xs ys zs := List.mem_append_right _ (List.mem_append_left _ (List.mem_map_of_mem h))
def ddef (x : Str) (st : Stmt) : He.DefD := ⟨(x, none), x, x, defArgs st, defBody st, defScope st, [], []⟩
theorem TopX.fn {P : Program} {w : World} {fa : List He.Fa} {fn : List He.DefD} {K : PySem.W.Frag} {mg : Str → Option Value} (T : TopX P w fa fn K mg) (i : Nat) {x : Str} {st : Stmt} (h : fn[i]? = some (ddef x st)) : ∃ fd, FunD K x x (defArgs st) (defBody st) (defScope st) [] [] (He.ga K x) fd :=
  T.says.def_ i h
end Lf
set_option Elab.async false
set_option linter.all false
set_option maxRecDepth 100000
set_option maxHeartbeats 4000000
/-! What a reading of data comes to, where it changes no object of one's own: a set of values -/
namespace Lf
open PySem PySem.Spec PyProof.Rows L2 RZ
def Es (de : DE) (env : Env) (S : D → Prop) : Prop := ∀ C : D → Env → Prop, (∀ d, S d → C d env) → de env C
def Ea (da : DA) (env : Env) (S : List D → Prop) : Prop := ∀ C : List D → Env → Prop, (∀ d, S d → C d env) → da env C
def Et (dt : DT) (env : Env) (S : Bool → Prop) : Prop := ∀ C : Bool → Env → Prop, (∀ d, S d → C d env) → dt env C
def Ei (di : DI) (env : Env) (S : List D → Prop) : Prop := ∀ C : List D → Env → Prop, (∀ d, S d → C d env) → di env C
abbrev Ev (de : DE) (env : Env) (d : D) : Prop := Es de env fun x => x = d
abbrev EvA (da : DA) (env : Env) (d : List D) : Prop := Ea da env fun x => x = d
abbrev EvT (dt : DT) (env : Env) (b : Bool) : Prop := Et dt env fun x => x = b
abbrev EvI (di : DI) (env : Env) (xs : List D) : Prop := Ei di env fun x => x = xs
section
variable {env : Env} {a b c : DE} {da : DA} {t u : DT} {S A B : D → Prop} {x y z d : D} {i : Nat}
theorem Es.imp {S' : D → Prop} (h : Es a env S) (k : ∀ d, S d → S' d) : Es a env S' := fun C hC => h C fun d hd => hC d (k d hd)
theorem ev_var (h : env[i]? = some (some (.d d))) : Ev (dVar i) env d := fun C k => ⟨d, h, k d rfl⟩
theorem ev_c : Ev (dC d) env d := fun C k => k d rfl
theorem es_op {r : DR2} (h1 : Es a env A) (h2 : Es b env B) (h : ∀ x y, A x → B y → ∀ C : D → Prop, (∀ z, S z → C z) → r x y C) : Es (dOp r a b) env S :=
  fun C k => h1 _ fun x hx => h2 _ fun y hy => h x y hx hy _ fun z hz => k z hz
theorem ev_op {r : DR2} (h1 : Ev a env x) (h2 : Ev b env y) (h : ∀ C : D → Prop, C z → r x y C) : Ev (dOp r a b) env z :=
  es_op h1 h2 fun _ _ e1 e2 C k => by subst e1 e2; exact h C (k z rfl)
theorem ev_un {r : D → (D → Prop) → Prop} (h1 : Ev a env x) (h : ∀ C : D → Prop, C z → r x C) : Ev (dUn r a) env z :=
  fun C k => h1 _ fun _ e => by subst e; exact h _ (k z rfl)
theorem ea_nil : EvA dNil env [] := fun C k => k _ rfl
theorem ea_cons {ds : List D} (h : Ev a env x) (h2 : EvA da env ds) : EvA (dCons a da) env (x :: ds) := fun C k => h _ fun _ e => h2 _ fun _ e2 => by subst e e2; exact k _ rfl
theorem es_cons1 (h : Es a env S) : Ea (dCons a dNil) env fun ds => ∃ x, S x ∧ ds = [x] := fun C k => h _ fun x e => k _ ⟨x, e, rfl⟩
theorem ev_cb {r : DC} {ds : List D} (h : EvA da env ds) (k : ∀ C : D → Prop, C z → r ds C) : Ev (dCB r da) env z := fun C q => h _ fun _ e => by subst e; exact k _ (q z rfl)
theorem es_cb {r : DC} {T : List D → Prop} (h : Ea da env T) (k : ∀ ds, T ds → ∀ C : D → Prop, (∀ z, S z → C z) → r ds C) : Es (dCB r da) env S := fun C q => h _ fun ds e => k ds e _ fun z hz => q z hz
theorem ev_tup {ds : List D} (h : EvA da env ds) (l : ds.length ≤ 100000) : Ev (dTup da) env (.tup ds) := fun C k => h _ fun _ e => by subst e; exact ⟨l, k _ rfl⟩
theorem ev_lst {ds : List D} (h : EvA da env ds) (l : ds.length ≤ 100000) : Ev (dLst da) env (.lst ds) := fun C k => h _ fun _ e => by subst e; exact ⟨l, k _ rfl⟩
theorem ev_andV {p : Bool} {q : Bool} (h : Ev a env (.bl p)) (h2 : p = true → Ev b env (.bl q)) : Ev (dAndV a b) env (.bl (p && q)) := fun C k => h _ fun _ e => by
  subst e
  refine ⟨p, rfl, ?_⟩
  cases p
  · exact k _ rfl
  · exact h2 rfl _ fun _ e => k _ e
theorem ev_orV {p : Bool} {q : Bool} (h : Ev a env (.bl p)) (h2 : p = false → Ev b env (.bl q)) : Ev (dOrV a b) env (.bl (p || q)) := fun C k => h _ fun _ e => by
  subst e
  refine ⟨p, rfl, ?_⟩
  cases p
  · exact h2 rfl _ fun _ e => k _ e
  · exact k _ rfl
theorem ev_notV {p : Bool} (h : Ev a env (.bl p)) : Ev (dNotV a) env (.bl (!p)) := fun C k => h _ fun _ e => by
  subst e; exact ⟨p, rfl, k _ rfl⟩
theorem et_test {p : Bool} (h : Ev a env (.bl p)) : EvT (dTest a) env p := fun C k => h _ fun _ e => ⟨p, e, k _ rfl⟩
theorem es_test {T : Bool → Prop} (h : Es a env fun x => ∃ p, x = .bl p ∧ T p) : Et (dTest a) env T := fun C k => h _ fun _ ⟨p, e, hp⟩ => ⟨p, e, k p hp⟩
theorem et_and {p q : Bool} (h : EvT t env p) (h2 : p = true → EvT u env q) : EvT (dAnd t u) env (p && q) := fun C k => h _ fun _ e => by
  subst e
  rename_i p
  cases p
  · exact k _ rfl
  · exact h2 rfl _ fun _ e => k _ e
theorem et_or {p q : Bool} (h : EvT t env p) (h2 : p = false → EvT u env q) : EvT (dOr t u) env (p || q) := fun C k => h _ fun _ e => by
  subst e
  rename_i p
  cases p
  · exact h2 rfl _ fun _ e => k _ e
  · exact k _ rfl
theorem et_not {p : Bool} (h : EvT t env p) : EvT (dNot t) env (!p) := fun C k => h _ fun _ e => by subst e; exact k _ rfl
theorem ev_if {p : Bool} (h : EvT t env p) (h1 : p = true → Ev a env z) (h2 : p = false → Ev b env z) : Ev (dIf t a b) env z := fun C k => h _ fun _ e => by
  subst e
  rename_i p
  cases p
  · exact h2 rfl _ k
  · exact h1 rfl _ k
theorem ev_chain {r r' : DR2} {p q : Bool} {w : D} (h1 : Ev a env x) (h2 : Ev b env y) (h : ∀ C : D → Prop, C (.bl p) → r x y C) (h3 : p = true → Ev c env w) (h4 : p = true → ∀ C : D → Prop, C (.bl q) → r' y w C) : Ev (dChain r r' a b c) env (.bl (p && q)) := fun C k =>
  h1 _ fun _ e1 => h2 _ fun _ e2 => by
    subst e1 e2
    refine h _ ⟨p, rfl, ?_⟩
    cases p
    · exact k _ rfl
    · exact h3 rfl _ fun _ e3 => by subst e3; exact h4 rfl _ (k _ rfl)
theorem es_call {n : Nat} {pw : PW} {ds : List D} (h : EvA da env ds) (l : ds.length = n) (k : ∀ C : D → Prop, (∀ z, S z → C z) → pw ds C) : Es (dCallP n pw da) env S := fun C q => h _ fun _ e => by subst e; exact ⟨l, k _ fun z hz => q z hz⟩
theorem ev_call {n : Nat} {pw : PW} {ds : List D} (h : EvA da env ds) (l : ds.length = n) (k : ∀ C : D → Prop, C z → pw ds C) : Ev (dCallP n pw da) env z := es_call h l fun C q => k C (q z rfl)
theorem ev_isi {T : String} {p : Bool} (h : Ev a env x) (e : kitD x T = some p) : Ev (dIsi T a) env (.bl p) := fun C k => h _ fun _ e2 => by subst e2; exact ⟨p, e, k _ rfl⟩
theorem ev_isi2 {T U : String} {p q : Bool} (h : Ev a env x) (e : kitD x T = some p) (e' : kitD x U = some q) : Ev (dIsi2 T U a) env (.bl (p || q)) := fun C k => h _ fun _ e2 => by subst e2; exact ⟨p, q, e, e', k _ rfl⟩
/-! what is walked -/
theorem ei_seq {xs : List D} (h : Ev a env x) (e : x.items? = some xs) : EvI (diSeq a) env xs := fun C k => h _ fun _ e2 => by subst e2; exact ⟨xs, e, k _ rfl⟩
theorem ei_zip {p q : Bool} {xs ys : List D} (h : EvA da env [x, y]) (e1 : x.seq? = some (p, xs)) (e2 : y.seq? = some (q, ys)) : EvI (diZipS da) env (zipD xs ys) := fun C k => h _ fun _ e => ⟨x, y, p, q, xs, ys, e, e1, e2, k _ rfl⟩
theorem ei_enum {p : Bool} {xs : List D} (h : EvA da env [x]) (e1 : x.seq? = some (p, xs)) : EvI (diEnumS da) env (enumD xs) := fun C k => h _ fun _ e => ⟨x, p, xs, e, e1, k _ rfl⟩
theorem ei_r1 {n : Int} (h : EvA da env [.int n]) (h1 : n < 2 ^ 62) (h2 : -(2 ^ 62) ≤ n) : EvI (diR1 da) env (rngD 0 n.toNat) := fun C k => h _ fun _ e => ⟨n, e, h1, h2, k _ rfl⟩
/-! targets -/
def Tg (dg : DG) (x : D) (env e2 : Env) : Prop := ∀ C : Env → Prop, C e2 → dg x env C
def Tgs (dg : List D → Env → (Env → Prop) → Prop) (xs : List D) (env e2 : Env) : Prop := ∀ C : Env → Prop, C e2 → dg xs env C
theorem tg_n (h : free env i = true) : Tg (dgN i) d env (env.set i (some (.d d))) := fun C k => ⟨h, k⟩
theorem tgs_nil : Tgs dgNil [] env env := fun C k => ⟨rfl, k⟩
theorem tgs_cons {g : DG} {gs : List D → Env → (Env → Prop) → Prop} {r : List D} {e1 e2 : Env} (h : Tg g d env e1) (h2 : Tgs gs r e1 e2) : Tgs (dgCons g gs) (d :: r) env e2 := fun C k => ⟨d, r, rfl, h _ (h2 _ k)⟩
theorem tg_tup {n : Nat} {gs : List D → Env → (Env → Prop) → Prop} {xs : List D} {e2 : Env} (h : Tgs gs xs env e2) (l : xs.length = n) : Tg (dgTup n gs) (.tup xs) env e2 := fun C k => ⟨xs, rfl, l, h _ k⟩
theorem tg_two {j : Nat} {x y : D} (h : free env i = true) (h2 : free (env.set i (some (.d x))) j = true) : Tg (dgTup 2 (dgCons (dgN i) (dgCons (dgN j) dgNil))) (.tup [x, y]) env ((env.set i (some (.d x))).set j (some (.d y))) :=
  tg_tup (tgs_cons (tg_n h) (tgs_cons (tg_n h2) tgs_nil)) rfl
/-! comprehensions -/
theorem take_next {α : Type} {xs : List α} {i : Nat} {x : α} (hx : xs[i]? = some x) : List.take (i + 1) xs = List.take i xs ++ [x] := by
  rw [List.take_add_one, hx]; rfl
/-- with a test: x gives g x, one or none -/
theorem ev_lc {di : DI} {dg : DG} {js vs : List Nat} {dt : DT} {de : DE} {xs : List D} (g : D → List D) (hi : EvI di env xs) (l : xs.length ≤ 100000) (hj : ∀ j ∈ js, j ∈ vs) (no : noOwnB env vs = true)
    (h : ∀ x ∈ xs, ∃ e2, Tg dg x (wipeE env vs) e2 ∧ ((∃ y, g x = [y] ∧ EvT dt e2 true ∧ Ev de e2 y) ∨ (g x = [] ∧ EvT dt e2 false))) : Ev (dOfN (dLcN di dg js dt de vs)) env (.lst (xs.flatMap g)) := fun C k => by
  refine ⟨hj, hi _ fun ys e => ?_⟩
  subst e
  refine ⟨l, no, fun i acc => acc = (List.take i ys).flatMap g, by simp, fun i acc hl hacc => ⟨fun x hx => ?_, fun e => ?_⟩⟩
  · obtain ⟨e2, ht, hc⟩ := h x (List.mem_of_getElem? hx)
    refine ht _ ?_
    rcases hc with ⟨y, hg, h1, h2⟩ | ⟨hg, h1⟩
    · refine h1 _ fun b eb => ?_
      subst eb
      simp only [if_true]
      refine h2 _ fun z ez => ⟨by first | rfl | trivial, ?_⟩
      subst ez
      rw [take_next hx, List.flatMap_append, hacc]
      simp [hg]
    · refine h1 _ fun b eb => ?_
      subst eb
      simp only [Bool.false_eq_true, if_false]
      refine ⟨by first | rfl | trivial, ?_⟩
      rw [take_next hx, List.flatMap_append, hacc]
      simp [hg]
  · subst e
    rw [hacc, List.take_length]
    exact k _ rfl
theorem flatMap_one {α β : Type} (f : α → β) (xs : List α) : xs.flatMap (fun x => [f x]) = xs.map f := by
  induction xs with
  | nil => rfl
  | cons x xs ih => simp [List.flatMap_cons, ih]
theorem et_yes : EvT dYes env true := fun C k => k _ rfl
/-- without a test -/
theorem ev_map {di : DI} {dg : DG} {js vs : List Nat} {de : DE} {xs : List D} (f : D → D) (hi : EvI di env xs) (l : xs.length ≤ 100000) (hj : ∀ j ∈ js, j ∈ vs) (no : noOwnB env vs = true)
    (h : ∀ x ∈ xs, ∃ e2, Tg dg x (wipeE env vs) e2 ∧ Ev de e2 (f x)) : Ev (dOfN (dLcN di dg js dYes de vs)) env (.lst (xs.map f)) := by
  rw [← flatMap_one]
  exact ev_lc _ hi l hj no fun x hx => let ⟨e2, h1, h2⟩ := h x hx; ⟨e2, h1, .inl ⟨f x, rfl, et_yes, h2⟩⟩
/-- any values of a kind -/
theorem es_lc {di : DI} {dg : DG} {js vs : List Nat} {de : DE} {xs : List D} (T : Nat → D → Prop) (hi : EvI di env xs) (l : xs.length ≤ 100000) (hj : ∀ j ∈ js, j ∈ vs) (no : noOwnB env vs = true)
    (h : ∀ i x, xs[i]? = some x → ∃ e2, Tg dg x (wipeE env vs) e2 ∧ Es de e2 (T i)) : Es (dOfN (dLcN di dg js dYes de vs)) env (fun d => ∃ ys : List D, d = .lst ys ∧ ys.length = xs.length ∧ ∀ i y, ys[i]? = some y → T i y) := fun C k => by
  refine ⟨hj, hi _ fun _ e => ?_⟩
  subst e
  refine ⟨l, no, fun i acc => acc.length = i ∧ ∀ j y, acc[j]? = some y → T j y, ⟨rfl, fun j y e => by simp at e⟩, fun i acc hl hacc => ⟨fun x hx => ?_, fun e => ?_⟩⟩
  · obtain ⟨e2, ht, hc⟩ := h i x hx
    refine ht _ (et_yes _ fun b eb => ?_)
    subst eb
    simp only [if_true]
    refine hc _ fun z hz => ⟨rfl, by simp [hacc.1], fun j y e => ?_⟩
    by_cases q : j < acc.length
    · rw [List.getElem?_append_left q] at e
      exact hacc.2 j y e
    · rw [List.getElem?_append_right (by omega)] at e
      have : j - acc.length = 0 := by
        have := (List.getElem?_eq_some_iff.mp e).1
        simp at this; omega
      rw [this] at e
      have e3 : z = y := by simpa using e
      have : j = i := by omega
      subst e3 this
      exact hz
  · subst e
    exact k _ ⟨acc, rfl, hacc.1, hacc.2⟩
/-! statements -/
variable {E : DEnds} {s1 s2 : DS}
theorem st_seq (h : s1 env { E with nx := fun e => s2 e E }) : dSeq s1 s2 env E := h
theorem st_ret (h : Es a env S) (k : ∀ d, S d → E.rt d env) : dRet a env E := h _ fun d hd => ⟨keepE_refl, k d hd⟩
theorem st_ret1 (h : Ev a env d) (k : E.rt d env) : dRet a env E := st_ret h fun _ e => e ▸ k
theorem st_asg (h : Es a env S) (f : free env i = true) (k : ∀ d, S d → E.nx (env.set i (some (.d d)))) : dAsg a (dgN i) env E := h _ fun d hd => ⟨keepE_refl, f, k d hd⟩
theorem st_asg1 (h : Ev a env d) (f : free env i = true) (k : E.nx (env.set i (some (.d d)))) : dAsg a (dgN i) env E := st_asg h f fun _ e => e ▸ k
theorem st_asgT {dg : DG} {e2 : Env} (h : Ev a env d) (f : Tg dg d env e2) (k : E.nx e2) : dAsg a dg env E := h _ fun x hx => ⟨keepE_refl, by subst hx; exact f _ k⟩
theorem st_drop (h : Es a env S) (k : E.nx env) : dDrop a env E := h _ fun d hd => ⟨keepE_refl, k⟩
theorem st_if {T : Bool → Prop} (h : Et t env T) (h1 : T true → s1 env E) (h2 : T false → s2 env E) : dIfS t s1 s2 env E := h _ fun b hb => ⟨keepE_refl, by
  cases b
  · exact h2 hb
  · exact h1 hb⟩
theorem st_if1 {p : Bool} (h : EvT t env p) (h1 : p = true → s1 env E) (h2 : p = false → s2 env E) : dIfS t s1 s2 env E := st_if h (fun e => h1 e.symm) (fun e => h2 e.symm)
theorem st_par {j : Nat} {x y : D} (h : EvA da env [x, y]) (f1 : free env i = true) (f2 : free env j = true) (k : E.nx ((env.set i (some (.d x))).set j (some (.d y)))) : dPar i j da env E := h _ fun ds e => ⟨keepE_refl, x, y, e, f1, f2, k⟩
/-- a loop whose environments are told by the turn -/
theorem st_for {di : DI} {dg : DG} {xs : List D} (W : Nat → Env → Prop) (hi : EvI di env xs) (h0 : W 0 env)
    (h : ∀ i x e, xs[i]? = some x → W i e → ∃ e2, Tg dg x e e2 ∧ s1 e2 { nx := W (i + 1), ct := W (i + 1), bk := E.nx, rt := E.rt }) (k : ∀ e, W xs.length e → E.nx e) : dFor di dg s1 env E :=
  hi _ fun ys ey => by
    subst ey
    exact ⟨keepE_refl, W, h0, fun i e hw => ⟨fun x hx => let ⟨e2, h1, h2⟩ := h i x e hx hw; h1 _ h2, fun el => k e (el ▸ hw)⟩⟩
theorem st_while (W : Nat → Env → Prop) {m0 : Nat} (h0 : W m0 env) (h : ∀ m e, W m e → ∃ p : Bool, EvT t e p ∧ (p = true → s1 e { nx := fun e2 => ∃ m', m' < m ∧ W m' e2, ct := fun e2 => ∃ m', m' < m ∧ W m' e2, bk := E.nx, rt := E.rt }) ∧ (p = false → E.nx e)) : dWhile t s1 env E :=
  ⟨W, ⟨m0, h0⟩, fun m e hw => by
    obtain ⟨p, ht, h1, h2⟩ := h m e hw
    refine ht _ fun b eb => ⟨keepE_refl, ?_⟩
    subst eb
    cases b
    · exact h2 rfl
    · exact h1 rfl⟩
end
end Lf
set_option Elab.async false
set_option linter.all false
set_option maxRecDepth 100000
set_option maxHeartbeats 4000000
/-! Operators and built-ins on given data -/
namespace Lf
open PySem PySem.Spec PyProof.Rows L2 RZ
section
variable {C : D → Prop} {i j : Int} {x y d : D} {xs ys : List D}
theorem rv_ib {f : Int → Int → Bool} {b : Bool} (e : f i j = b) (h : C (.bl b)) : rIB f (.int i) (.int j) C := ⟨i, j, rfl, rfl, e ▸ h⟩
theorem rv_ii {f : Int → Int → Int} {k : Int} (e : f i j = k) (h : C (.int k)) : rII f (.int i) (.int j) C := ⟨i, j, rfl, rfl, e ▸ h⟩
theorem rv_iic {P : Int → Int → Prop} {f : Int → Int → Int} {k : Int} (p : P i j) (e : f i j = k) (h : C (.int k)) : rIIc P f (.int i) (.int j) C := ⟨i, j, rfl, rfl, p, e ▸ h⟩
theorem rv_add {k : Int} (e : i + j = k) (h : C (.int k)) : dbAdd (.int i) (.int j) C := .inl ⟨i, j, rfl, rfl, e ▸ h⟩
theorem rv_addT (l : xs.length + ys.length ≤ 100000) (h : C (.tup (xs ++ ys))) : dbAdd (.tup xs) (.tup ys) C := .inr (.inl ⟨xs, ys, rfl, rfl, l, h⟩)
theorem rv_addL (l : xs.length + ys.length ≤ 100000) (h : C (.lst (xs ++ ys))) : dbAdd (.lst xs) (.lst ys) C := .inr (.inr ⟨xs, ys, rfl, rfl, l, h⟩)
theorem rv_mul {k : Int} (b : CMul i j ∨ CMulW i j) (e : i * j = k) (h : C (.int k)) : dbMul (.int i) (.int j) C := .inl ⟨i, j, rfl, rfl, b, e ▸ h⟩
theorem rv_mulT {k : Int} (ne : xs ≠ []) (h1 : 1 ≤ k) (h2 : k ≤ 1000) (l : xs.length ≤ 1000) (h : C (.tup (List.replicate k.toNat xs).flatten)) : dbMul (.tup xs) (.int k) C := .inr (.inl ⟨xs, k, rfl, rfl, ne, h1, h2, l, h⟩)
theorem rv_fdivN {k : Int} (b : CDivN i j) (e : i.fdiv j = k) (h : C (.int k)) : dbFdiv (.int i) (.int j) C := ⟨i, j, rfl, rfl, .inl ⟨b, e ▸ h⟩⟩
theorem rv_fdivW {k : Int} (b : CDivW i j) (e : i / j = k) (h : C (.int k)) : dbFdiv (.int i) (.int j) C := ⟨i, j, rfl, rfl, .inr ⟨b, e ▸ h⟩⟩
theorem rv_ixL (e : atI xs i = some d) (h : C d) : dIx (.lst xs) (.int i) C := .inl ⟨xs, i, d, rfl, rfl, e, h⟩
theorem rv_ixT (e : atI xs i = some d) (h : C d) : dIx (.tup xs) (.int i) C := .inr ⟨xs, i, d, rfl, rfl, e, h⟩
theorem rv_isN {b : Bool} (e : x.isN = b) (h : C (.bl b)) : dIsN x .non C := ⟨rfl, e ▸ h⟩
theorem rv_notN {b : Bool} (e : (!x.isN) = b) (h : C (.bl b)) : dNotN x .non C := ⟨rfl, e ▸ h⟩
theorem rv_eq {b : Bool} (h1 : shp x) (h2 : shp y) (e : dEq x y = b) (h : C (.bl b)) : dEqD x y C := ⟨h1, h2, e ▸ h⟩
theorem rv_ne {b : Bool} (h1 : shp x) (h2 : shp y) (e : (!dEq x y) = b) (h : C (.bl b)) : dNeD x y C := ⟨h1, h2, e ▸ h⟩
theorem cv_len (e : x.items? = some xs) (h : C (.int xs.length)) : dLen [x] C := ⟨x, xs, rfl, e, h⟩
theorem cv_all {bs : List Bool} (h : C (.bl (bs.all id))) : dAll [.lst (bs.map D.bl)] C := ⟨bs, rfl, h⟩
theorem all_true {α : Type} (xs : List α) : (xs.map fun _ => true).all id = true := by
  induction xs with
  | nil => rfl
  | cons x xs ih => simp
theorem cv_allT {α : Type} {zs : List α} (h : C (.bl true)) : dAll [.lst (zs.map fun _ => D.bl true)] C := by
  have : (zs.map fun _ => D.bl true) = (zs.map fun _ => true).map D.bl := by simp
  rw [this]
  exact cv_all (by rw [all_true]; exact h)
theorem cv_sum {ns : List Int} (e : xs = ns.map D.int) (h : C (.int ns.sum)) : dSum [.lst xs] C := ⟨ns, by rw [e], h⟩
theorem cv_tup (e : x.items? = some xs) (h : C (.tup xs)) : dTupQ [x] C := ⟨x, xs, rfl, e, h⟩
theorem cv_list (e : x.items? = some xs) (h : C (.lst xs)) : dListQ [x] C := ⟨x, xs, rfl, e, h⟩
theorem cv_gcd (h : C (.int ((Nat.gcd i.natAbs j.natAbs : Nat) : Int))) : dGcd [.int i, .int j] C := ⟨i, j, rfl, h⟩
theorem cv_abs (h : C (.int i.natAbs)) : dAbs [.int i] C := ⟨i, rfl, by
  have : (if i < 0 then -i else i) = i.natAbs := by split <;> omega
  rw [this]; exact h⟩
theorem cv_int1 (h : C (.int i)) : dInt1 [.int i] C := .inl ⟨i, rfl, h⟩
end
/-! == -/
theorem canLayAll_of {xs : List PyData} (h : ∀ x ∈ xs, x.canLay0 = true) : PyData.canLayAll0 xs = true := by
  induction xs with
  | nil => rfl
  | cons x xs ih => simp only [PyData.canLayAll0]; rw [h x (by simp), ih fun y hy => h y (by simp [hy])]; rfl
theorem depthAll_of {n : Nat} {xs : List PyData} (h : ∀ x ∈ xs, x.depth ≤ n) : PyData.depthAll xs ≤ n := by
  induction xs with
  | nil => simp [PyData.depthAll]
  | cons x xs ih => simp only [PyData.depthAll]; have := h x (by simp); have := ih fun y hy => h y (by simp [hy]); omega
/-- data of at most n lists and tuples one within another -/
def flat (n : Nat) (d : D) : Prop := d.toP.canLay0 = true ∧ d.toP.depth ≤ n
theorem flat.mono {n m : Nat} {d : D} (h : flat n d) (l : n ≤ m) : flat m d := ⟨h.1, Nat.le_trans h.2 l⟩
theorem flat.shp {n : Nat} {d : D} (h : flat n d) (l : n ≤ 64 := by decide) : shp d := by
  unfold Lf.shp SeqAt.shaped
  rw [h.1]
  simp [Nat.le_trans h.2 l]
theorem flat_int {i : Int} : flat 0 (.int i) := ⟨by simp [D.toP, PyData.canLay0], by simp [D.toP, PyData.depth]⟩
theorem flat_non : flat 0 .non := ⟨by simp [D.toP, PyData.canLay0], by simp [D.toP, PyData.depth]⟩
theorem flat_bl {b : Bool} : flat 0 (.bl b) := ⟨by simp [D.toP, PyData.canLay0], by simp [D.toP, PyData.depth]⟩
theorem flat_lst {n : Nat} {xs : List D} (h : ∀ x ∈ xs, flat n x) : flat (n + 1) (.lst xs) := by
  refine ⟨?_, ?_⟩
  · simp only [D.toP, D.toPs_eq, PyData.canLay0]
    exact canLayAll_of fun x hx => by obtain ⟨y, hy, rfl⟩ := List.mem_map.mp hx; exact (h y hy).1
  · simp only [D.toP, D.toPs_eq, PyData.depth]
    have := depthAll_of (n := n) (xs := xs.map D.toP) fun x hx => by obtain ⟨y, hy, rfl⟩ := List.mem_map.mp hx; exact (h y hy).2
    omega
theorem flat_tup {n : Nat} {xs : List D} (h : ∀ x ∈ xs, flat n x) : flat (n + 1) (.tup xs) := by
  refine ⟨?_, ?_⟩
  · simp only [D.toP, D.toPs_eq, PyData.canLay0]
    exact canLayAll_of fun x hx => by obtain ⟨y, hy, rfl⟩ := List.mem_map.mp hx; exact (h y hy).1
  · simp only [D.toP, D.toPs_eq, PyData.depth]
    have := depthAll_of (n := n) (xs := xs.map D.toP) fun x hx => by obtain ⟨y, hy, rfl⟩ := List.mem_map.mp hx; exact (h y hy).2
    omega
theorem dEq_refl {n : Nat} {d : D} (h : flat n d) : dEq d d = true := SeqAt.eqv_refl _ h.1
theorem dEq_int (i j : Int) : dEq (.int i) (.int j) = decide (i = j) := by
  simp only [dEq, D.toP, PyData.eqv]
  by_cases h : i = j <;> simp [h]
/-- a row of ints -/
def rowD (r : List Int) : D := .tup (r.map .int)
theorem rowD_len (r : List Int) : (r.map D.int).length = r.length := List.length_map ..
theorem flat_row {r : List Int} : flat 1 (rowD r) := flat_tup fun x hx => by obtain ⟨i, _, rfl⟩ := List.mem_map.mp hx; exact flat_int
theorem flat_lrow {r : List Int} : flat 1 (.lst (r.map .int)) := flat_lst fun x hx => by obtain ⟨i, _, rfl⟩ := List.mem_map.mp hx; exact flat_int
theorem eqvAll_ints : ∀ r s : List Int, PyData.eqvAll (D.toPs (r.map D.int)) (D.toPs (s.map D.int)) = decide (r = s)
  | [], [] => by simp [D.toPs, PyData.eqvAll]
  | [], _ :: _ => by simp [D.toPs, PyData.eqvAll]
  | _ :: _, [] => by simp [D.toPs, PyData.eqvAll]
  | a :: r, b :: s => by
    have := eqvAll_ints r s
    simp only [List.map_cons, D.toPs, PyData.eqvAll, this, D.toP, PyData.eqv]
    by_cases h : a = b <;> by_cases g : r = s <;> simp [h, g]
theorem dEq_row (r s : List Int) : dEq (rowD r) (rowD s) = decide (r = s) := by
  simp only [dEq, rowD, D.toP, PyData.eqv]
  exact eqvAll_ints r s
theorem dEq_nil {xs : List D} : dEq (.lst xs) (.lst []) = xs.isEmpty := by
  cases xs <;> simp [dEq, D.toP, D.toPs, PyData.eqv, PyData.eqvAll]
end Lf
set_option Elab.async false
set_option linter.all false
set_option maxRecDepth 100000
set_option maxHeartbeats 4000000
/-! The object that a law draws from: a dict of one's own -/
namespace Lf
open PySem PySem.Spec PyProof.Rows L2 RZ
theorem length_put {kvs : List (Key × V)} {k : Key} {u : V} (v : V) (h : valV kvs k = some u) : (putK kvs k v).length = kvs.length := by
  unfold putK
  rw [valV_any, h]
  simp
structure DrwAt (Hs H : Hp) (v : V) (fp : List Addr) (large : List Int) (p l c : Addr) (kvs : List (Key × V)) (cells : List Int) (rest turn : Int) : Prop where
  ev : v = .ref p
  ef : fp = [p, l]
  ne : p ≠ l
  hp : H p = some (.dK kvs)
  few : kvs.length ≤ 4
  gl : valV kvs (Sum.inr ("large" : Str)) = some (.ref l)
  gc : valV kvs (Sum.inr ("cells" : Str)) = some (.ref c)
  gr : valV kvs (Sum.inr ("rest" : Str)) = some (.int rest)
  gt : valV kvs (Sum.inr ("turn" : Str)) = some (.int turn)
  hl : H l = some (.lst (large.map V.int))
  hc : Rp Hs (.ref c) (.lst (cells.map D.int))
  r0 : 0 ≤ rest
  t0 : 0 ≤ turn
  l0 : ∀ x ∈ large, 0 ≤ x
  c0 : ∀ x ∈ cells, 0 ≤ x
/-- .. with that many numbers left -/
def drwN (large : List Int) : Ow where
  At := fun Hs H v fp => ∃ p l c kvs cells rest turn, DrwAt Hs H v fp large p l c kvs cells rest turn
  mono := fun {Hs H Hs' H' v fp} ⟨p, l, c, kvs, cells, rest, turn, d⟩ s k =>
    ⟨p, l, c, kvs, cells, rest, turn, { d with hp := by rw [k p (by rw [d.ef]; simp)]; exact d.hp, hl := by rw [k l (by rw [d.ef]; simp)]; exact d.hl, hc := d.hc.mono s }⟩
  known := fun {Hs H v fp} ⟨p, l, c, kvs, cells, rest, turn, d⟩ a ha => by
    rw [d.ef] at ha
    have : a = p ∨ a = l := by simpa using ha
    rcases this with rfl | rfl
    · rw [d.hp]; exact fun z => by cases z
    · rw [d.hl]; exact fun z => by cases z
def drw : Ow where
  At := fun Hs H v fp => ∃ large, (drwN large).At Hs H v fp
  mono := fun ⟨large, h⟩ s k => ⟨large, (drwN large).mono h s k⟩
  known := fun ⟨large, h⟩ => (drwN large).known h
/-- an object changes its own parts alone -/
theorem EnvF.own {Hs Fr H H' : Hp} {σ : L2.St} {env : Env} {fp : Nat → List Addr} (r : EnvF Hs Fr H σ env fp) {i : Nat} {w w' : Ow} (hw : env[i]? = some (some (.o w))) {v0 : V} (hv : σ[i]? = some (some v0))
    (k : ∀ a, a ∉ fp i → H a ≠ none → H' a = H a) (h : w'.At Hs H' v0 (fp i)) : EnvF Hs Fr H' σ (env.set i (some (.o w'))) fp := by
  have hi : i < env.length := (List.getElem?_eq_some_iff.mp hw).1
  have back : ∀ (j : Nat) e, (env.set i (some (.o w')))[j]? = some (some e) → (j = i ∧ e = .o w') ∨ (j ≠ i ∧ env[j]? = some (some e)) := fun j e he => by
    by_cases z : j = i
    · subst z
      rw [List.getElem?_set_self hi] at he
      cases he
      exact .inl ⟨rfl, rfl⟩
    · rw [List.getElem?_set_ne (Ne.symm z)] at he
      exact .inr ⟨z, he⟩
  have old : ∀ (j : Nat) e, (env.set i (some (.o w')))[j]? = some (some e) → ∃ e', env[j]? = some (some e') := fun j e he => by
    rcases back j e he with ⟨rfl, _⟩ | ⟨_, z⟩
    · exact ⟨_, hw⟩
    · exact ⟨_, z⟩
  refine ⟨by simpa using r.len, fun j e he => ?_, fun j e he => ?_, fun j q e e' hjq h1 h2 => ?_⟩
  · rcases back j e he with ⟨rfl, rfl⟩ | ⟨z, he'⟩
    · exact ⟨v0, hv, h⟩
    · obtain ⟨u, h1, h2⟩ := r.at_ j e he'
      exact ⟨u, h1, En.mono h2 (Same.refl _) fun a ha => k a (fun q => r.dis j i e _ z he' hw a ha q) (En.known h2 a ha)⟩
  · obtain ⟨e', z⟩ := old j e he
    exact r.fr j e' z
  · obtain ⟨e1, z1⟩ := old j e h1
    obtain ⟨e2, z2⟩ := old q e' h2
    exact r.dis j q e1 e2 hjq z1 z2
theorem EnvF.val {Hs Fr H : Hp} {σ : L2.St} {env : Env} {fp : Nat → List Addr} (r : EnvF Hs Fr H σ env fp) {i : Nat} {w : Ow} (hw : env[i]? = some (some (.o w))) : ∃ v0, σ[i]? = some (some v0) ∧ w.At Hs H v0 (fp i) := r.at_ i _ hw
theorem set_self {env : Env} {i : Nat} {e : Option En} (h : env[i]? = some e) : env.set i e = env := by
  apply List.ext_getElem?
  intro j
  by_cases z : i = j
  · subst z
    rw [List.getElem?_set_self (List.getElem?_eq_some_iff.mp h).1, h]
  · rw [List.getElem?_set_ne z]
/-! reading it: numbers, the cells -/
def dKey (i : Nat) (x : Str) : DE := fun env C => env[i]? = some (some (.o drw)) ∧
  (((x = ("rest" : Str) ∨ x = ("turn" : Str)) ∧ ∀ n : Int, 0 ≤ n → C (.int n) env) ∨ (x = ("cells" : Str) ∧ ∀ ns : List Int, (∀ n ∈ ns, 0 ≤ n) → C (.lst (ns.map .int)) env))
instance {i : Nat} {x : Str} : AbsE (tDGet (tVar i) (tC (.str x))) (dKey i x) := ⟨fun σ Hs Fr H env Q C er sf fh h k => by
  obtain ⟨hw, h⟩ := h
  obtain ⟨fp, r⟩ := er
  obtain ⟨v0, hv, large, p, l, c, kvs, cells, rest, turn, d⟩ := r.val hw
  obtain rfl := d.ev
  refine ⟨_, hv, ?_⟩
  rcases h with ⟨rfl | rfl, h⟩ | ⟨rfl, h⟩
  · exact ⟨p, _, rfl, d.gr ▸ DGet.k (k := Sum.inr ("rest" : Str)) d.hp, k _ _ env Hs Fr H ⟨fp, r⟩ (Stp.refl _ _) sf fh (.int _) (h _ d.r0)⟩
  · exact ⟨p, _, rfl, d.gt ▸ DGet.k (k := Sum.inr ("turn" : Str)) d.hp, k _ _ env Hs Fr H ⟨fp, r⟩ (Stp.refl _ _) sf fh (.int _) (h _ d.t0)⟩
  · exact ⟨p, _, rfl, d.gc ▸ DGet.k (k := Sum.inr ("cells" : Str)) d.hp, k _ _ env Hs Fr H ⟨fp, r⟩ (Stp.refl _ _) sf fh d.hc (h _ d.c0)⟩⟩
theorem DrwAt.put {Hs H : Hp} {v : V} {fp : List Addr} {large : List Int} {p l c : Addr} {kvs : List (Key × V)} {cells : List Int} {rest turn : Int} (d : DrwAt Hs H v fp large p l c kvs cells rest turn) {x : Str} {n : Int} (hx : x = ("rest" : Str) ∨ x = ("turn" : Str)) (hn : 0 ≤ n) :
    ∃ rest' turn', DrwAt Hs (upd H p (.dK (putK kvs (Sum.inr x) (.int n)))) v fp large p l c (putK kvs (Sum.inr x) (.int n)) cells rest' turn' := by
  have u : ∃ u, valV kvs (Sum.inr x) = some u := by
    rcases hx with rfl | rfl
    · exact ⟨_, d.gr⟩
    · exact ⟨_, d.gt⟩
  obtain ⟨u, hu⟩ := u
  have len := length_put (.int n) hu
  have oth : ∀ y : Str, y ≠ x → valV (putK kvs (Sum.inr x) (.int n)) (Sum.inr y) = valV kvs (Sum.inr y) := fun y hy => by
    rw [valV_put, if_neg (fun z => hy (Sum.inr.inj z))]
  have own : valV (putK kvs (Sum.inr x) (.int n)) (Sum.inr x) = some (.int n) := by rw [valV_put, if_pos rfl]
  have n1 : ("large" : Str) ≠ x := by rcases hx with rfl | rfl <;> decide
  have n2 : ("cells" : Str) ≠ x := by rcases hx with rfl | rfl <;> decide
  have few : (putK kvs (Sum.inr x) (.int n)).length ≤ 4 := by rw [len]; exact d.few
  have hl : upd H p (.dK (putK kvs (Sum.inr x) (.int n))) l = some (.lst (large.map V.int)) := by rw [upd_ne (Ne.symm d.ne)]; exact d.hl
  have l1 := (oth _ n1).trans d.gl
  have c1 := (oth _ n2).trans d.gc
  rcases hx with rfl | rfl
  · exact ⟨n, turn, d.ev, d.ef, d.ne, upd_same, few, l1, c1, own, (oth _ (by decide)).trans d.gt, hl, d.hc, hn, d.t0, d.l0, d.c0⟩
  · exact ⟨rest, n, d.ev, d.ef, d.ne, upd_same, few, l1, c1, (oth _ (by decide)).trans d.gr, own, hl, d.hc, d.r0, hn, d.l0, d.c0⟩
def dPutO (i : Nat) (x : Str) (de : DE) : DS := fun env E => de env fun d env1 => keepE env env1 ∧ env1[i]? = some (some (.o drw)) ∧ (x = ("rest" : Str) ∨ x = ("turn" : Str)) ∧ ∃ n : Int, d = .int n ∧ 0 ≤ n ∧ E.nx env1
theorem kp_of {σ : L2.St} {env env' : Env} (h : keepE env env') : Kp σ env σ env' := fun i w hw => ⟨rfl, h i w hw⟩
instance {i : Nat} {x : Str} {te : TE} {de : DE} [ha : AbsE te de] : AbsS (sDPut (tVar i) (tC (.str x)) te) (dPutO i x de) := ⟨fun σ Hs Fr H env D E er sf fh h kn kr kb kc => by
  refine ha.run σ Hs Fr H env _ _ er sf fh h fun v d env1 Hs1 Fr1 H1 r1 s1 sf1 fh1 rv hc => ?_
  obtain ⟨ke, hw, hx, n, rfl, hn, hE⟩ := hc
  obtain ⟨fp, r⟩ := r1
  obtain ⟨v0, hv, large, p, l, c, kvs, cells, rest, turn, d⟩ := r.val hw
  obtain ⟨rest', turn', d'⟩ := d.put hx hn
  have ev := d.ev
  subst ev
  cases rv.int_inv
  have few := d.few
  refine ⟨_, hv, p, _, rfl, DPut.k (k := Sum.inr x) d.hp (szlt (by omega)), ?_⟩
  have hpf : Fr1 p = none := r.fr i _ hw p (by rw [d.ef]; simp)
  have r2 : EnvF Hs1 Fr1 (upd H1 p (.dK (putK kvs (Sum.inr x) (.int n)))) σ (env1.set i (some (.o drw))) fp := r.own hw hv (fun a ha _ => upd_ne (fun z => ha (by rw [d.ef, z]; simp))) ⟨large, p, l, c, _, cells, rest', turn', d'⟩
  rw [set_self hw] at r2
  exact kn σ env1 Hs1 Fr1 _ ⟨fp, r2⟩ s1 sf1 (same_upd fh1 hpf) (kp_of ke) hE⟩
end Lf
set_option Elab.async false
set_option linter.all false
set_option maxRecDepth 100000
set_option maxHeartbeats 4000000
namespace Lf
open PySem PySem.Spec PyProof.Rows L2 RZ
theorem EnvF.reown {Hs Fr H : Hp} {σ : L2.St} {env : Env} {fp : Nat → List Addr} (r : EnvF Hs Fr H σ env fp) {i : Nat} {w w' : Ow} (hw : env[i]? = some (some (.o w))) (h : ∀ v0, w.At Hs H v0 (fp i) → w'.At Hs H v0 (fp i)) : EnvF Hs Fr H σ (env.set i (some (.o w'))) fp := by
  obtain ⟨v0, hv, ha⟩ := r.val hw
  exact r.own hw hv (fun _ _ _ => rfl) (h v0 ha)
theorem rp_ints {H : Hp} {l : Addr} {ns : List Int} (h : H l = some (.lst (ns.map V.int))) : Rp H (.ref l) (.lst (ns.map .int)) := .lst h (by simp) fun i v d h1 h2 => by
  rw [List.getElem?_map] at h1 h2
  cases q : ns[i]? with
  | none => rw [q] at h1; cases h1
  | some n => rw [q] at h1 h2; cases h1; cases h2; exact .int _
/-- the loop that takes from the great numbers while there is no rest -/
def dDrain (i : Nat) (r l : Str) (z z2 : Int) : DS := fun env E => env[i]? = some (some (.o drw)) ∧ r = ("rest" : Str) ∧ l = ("large" : Str) ∧ z = 0 ∧ z2 = 0 ∧ E.nx env
theorem ix0 {n : Nat} : ixN (n + 1) 0 = some 0 := by
  unfold ixN
  simp
instance {K K2 K3 : PySem.W.Frag} {i : Nat} {r l : Str} {z z2 : Int} : AbsS (tWhile (tAnd (tTest (tOp (rEqD K2) (tDGet (tVar i) (tC (.str r))) (tC (.int z)))) (tTest (tOp (rNeD K3) (tDGet (tVar i) (tC (.str l))) (tLst tNil))))
    (sDPut (tVar i) (tC (.str r)) (tBM K "list" rPopAt (tDGet (tVar i) (tC (.str l))) (tCons (tC (.int z2)) tNil)))) (dDrain i r l z z2) := ⟨fun σ Hs Fr H env D E er sf fh h kn kr kb kc => by
  obtain ⟨hw, rfl, rfl, rfl, rfl, hE⟩ := h
  obtain ⟨fp, r0⟩ := er
  obtain ⟨v0, hv0, large0, ha0⟩ := r0.val hw
  have hi : i < env.length := (List.getElem?_eq_some_iff.mp hw).1
  refine ⟨fun m σ' H' => σ' = σ ∧ ∃ large, large.length = m ∧ Same Fr H' ∧ EnvF Hs Fr H' σ (env.set i (some (.o (drwN large)))) fp, ⟨_, rfl, large0, rfl, fh, r0.own hw hv0 (fun _ _ _ => rfl) ha0⟩, ?_⟩
  rintro m σ1 H1 ⟨rfl, large, rfl, fh1, r1⟩
  have hwN : ∀ lg, (env.set i (some (.o (drwN lg))))[i]? = some (some (.o (drwN lg))) := fun lg => List.getElem?_set_self hi
  obtain ⟨v1, hv1, p, lp, c, kvs, cells, rest, turn, d⟩ := r1.val (hwN large)
  have e0 := d.ev
  subst e0
  have few := d.few
  have fin : ∀ H2, Same Fr H2 → EnvF Hs Fr H2 σ1 (env.set i (some (.o (drwN large)))) fp → D.nx σ1 H2 := fun H2 fh2 r2 => by
    refine kn σ1 env Hs Fr H2 ⟨fp, ?_⟩ (Stp.refl _ _) sf fh2 (Kp.refl _ _) hE
    have r3 := r2.reown (hwN large) (w' := drw) fun v0 ha => ⟨large, ha⟩
    rw [List.set_set, set_self hw] at r3
    exact r3
  refine ⟨_, hv1, p, _, rfl, d.gr ▸ DGet.k (k := Sum.inr ("rest" : Str)) d.hp, .int rest, .int 0, .int _, .int _, rfl, rfl, _, rfl, ?_⟩
  by_cases hr : PyData.eqv (.int rest) (.int 0) = true
  · show if PyData.eqv (.int rest) (.int 0) = true then _ else _
    rw [if_pos hr]
    refine ⟨_, hv1, p, _, rfl, d.gl ▸ DGet.k (k := Sum.inr ("large" : Str)) d.hp, by show 0 ≤ sizeLine; decide, fun q hq => ?_⟩
    have nl : lp ≠ q := fun z => by have := d.hl; rw [z, hq] at this; cases this
    have np : p ≠ q := fun z => by have := d.hp; rw [z, hq] at this; cases this
    have fh2 : Same Fr (upd H1 q (.lst [])) := same_upd fh1 (none_of fh1 hq)
    have d2 : DrwAt Hs (upd H1 q (.lst [])) (.ref p) (fp i) large p lp c kvs cells rest turn := { d with hp := by rw [upd_ne np]; exact d.hp, hl := by rw [upd_ne nl]; exact d.hl }
    have k2 : ∀ a, a ∉ fp i → H1 a ≠ none → upd H1 q (.lst []) a = H1 a := fun a _ ha => upd_ne (fun z => ha (z ▸ hq))
    have rq : Rp (upd H1 q (.lst [])) (.ref q) (.lst []) := .lst upd_same rfl fun i v d h1 h2 => by simp at h2
    refine ⟨_, _, (rp_ints d2.hl).dp (flat_lrow (r := large)).shp.pln, rq.dp (flat_lrow (r := [])).shp.pln, (flat_lrow (r := large)).shp, (flat_lrow (r := [])).shp, _, rfl, ?_⟩
    show if (!dEq (.lst (large.map .int)) (.lst [])) = true then _ else _
    rw [dEq_nil]
    cases large with
    | nil =>
      simp only [List.map_nil, List.isEmpty_nil, Bool.not_true, Bool.false_eq_true, if_false]
      have r2 := r1.own (hwN []) hv1 (w' := drwN []) k2 ⟨p, lp, c, kvs, cells, rest, turn, d2⟩
      rw [List.set_set] at r2
      exact fin _ fh2 r2
    | cons x more =>
      simp only [List.map_cons, List.isEmpty_cons, Bool.not_false, if_true]
      have hx : 0 ≤ x := d.l0 x (by simp)
      have d3 : DrwAt Hs (upd (upd H1 q (.lst [])) lp (.lst (more.map V.int))) (.ref p) (fp i) more p lp c kvs cells rest turn :=
        { d2 with hp := by rw [upd_ne d.ne]; exact d2.hp, hl := upd_same, l0 := fun y hy => d.l0 y (by simp [hy]) }
      obtain ⟨rest', turn', d4⟩ := d3.put (x := "rest") (n := x) (.inl rfl) hx
      have hpf : Fr p = none := r0.fr i _ hw p (by rw [d.ef]; simp)
      have hlf : Fr lp = none := r0.fr i _ hw lp (by rw [d.ef]; simp)
      refine ⟨fun σ' H' => σ' = σ1 ∧ ∃ lg : List Int, lg.length = more.length ∧ Same Fr H' ∧ EnvF Hs Fr H' σ1 (env.set i (some (.o (drwN lg)))) fp, fun σ' H' h => ⟨more.length, by simp, h⟩, ?_⟩
      refine ⟨_, hv1, p, _, rfl, d.gl ▸ DGet.k (k := Sum.inr ("large" : Str)) d2.hp, (show tyV K "list" (.ref lp) _ from .inl ⟨rfl, _, SqL.of d2.hl⟩), ?_⟩
      refine ⟨lp, (x :: more).map V.int, 0, 0, .int x, rfl, rfl, d2.hl, by decide, by decide, (ixN_seq (by rw [List.length_map, List.length_cons]; exact ix0)).1, rfl, ?_⟩
      refine ⟨_, hv1, p, _, rfl, DPut.k (k := Sum.inr ("rest" : Str)) d3.hp (szlt (by omega)), rfl, more, rfl, same_upd (same_upd fh2 hlf) hpf, ?_⟩
      have r4 := r1.own (hwN (x :: more)) hv1 (w' := drwN more) (H' := upd (upd (upd H1 q (.lst [])) lp (.lst (more.map V.int))) p (.dK (putK kvs (Sum.inr ("rest" : Str)) (.int x)))) (fun a ha hn => by
        have a1 : a ≠ p := fun z => ha (by rw [d.ef, z]; simp)
        have a2 : a ≠ lp := fun z => ha (by rw [d.ef, z]; simp)
        rw [upd_ne a1, upd_ne a2]
        exact k2 a ha hn) ⟨p, lp, c, _, cells, rest', turn', d4⟩
      rw [List.set_set] at r4
      exact r4
  · show if PyData.eqv (.int rest) (.int 0) = true then _ else _
    rw [if_neg hr]
    show if false = true then _ else _
    rw [if_neg (by decide)]
    exact fin H1 fh1 r1⟩
end Lf
set_option Elab.async false
set_option linter.all false
set_option maxRecDepth 100000
set_option maxHeartbeats 4000000
namespace Lf
open PySem PySem.Spec PyProof.Rows L2 RZ
section
variable {X : Cx} {K : PySem.W.Frag} {st : Stmt} {b : List Stmt} {te : TE} {t : TS} {i j : Nat}
theorem ps_own (h : PS X st (tAsg te (gName i))) : PS X st (tAsgO te i) := h
theorem ps_appO (h : PS X st (tDrop (tBM K "list" rAppend (tVar i) (tCons te tNil)))) : PS X st (tAppO K i te) := h
theorem pss_frz (i : Nat) (h : PSs X b t) : PSs X b (tFrz i t) := h
/-- xs.append(ys.pop(e)) -/
def tAppPop (K K2 : PySem.W.Frag) (i j : Nat) (te : TE) : TS := tDrop (tBM K "list" rAppend (tVar i) (tCons (tBM K2 "list" rPopAt (tVar j) (tCons te tNil)) tNil))
theorem ps_appPop {K2 : PySem.W.Frag} (h : PS X st (tDrop (tBM K "list" rAppend (tVar i) (tCons (tBM K2 "list" rPopAt (tVar j) (tCons te tNil)) tNil)))) : PS X st (tAppPop K K2 i j te) := h
def tParO (i j : Nat) (t1 t2 : TE) : TS := tPar i j (tCons t1 (tCons t2 tNil))
theorem ps_parO {t1 t2 : TE} (h : PS X st (tPar i j (tCons t1 (tCons t2 tNil)))) : PS X st (tParO i j t1 t2) := h
def tNeNil (K : PySem.W.Frag) (i : Nat) : TT := tTest (tOp (rNeD K) (tVar i) (tLst tNil))
theorem pt_neNil {e : Expr} (h : PT X e (tTest (tOp (rNeD K) (tVar i) (tLst tNil)))) : PT X e (tNeNil K i) := h
end
theorem RpA.erase {H : Hp} {ws : List V} {xs : List D} (r : RpA H ws xs) (k : Nat) : RpA H (ws.eraseIdx k) (xs.eraseIdx k) := by
  refine ⟨by rw [List.length_eraseIdx, List.length_eraseIdx, r.1], fun i v d h1 h2 => ?_⟩
  rw [List.getElem?_eraseIdx] at h1 h2
  split at h1
  · next h => rw [if_pos h] at h2; exact r.2 _ _ _ h1 h2
  · next h => rw [if_neg h] at h2; exact r.2 _ _ _ h1 h2
/-- is the list of one's own in the slot i not empty -/
def dNeNil (i : Nat) : DT := fun env C => ∃ xs, env[i]? = some (some (.l xs)) ∧ (∃ n, flat n (.lst xs) ∧ n ≤ 64) ∧ C (!xs.isEmpty) env
instance {K : PySem.W.Frag} {i : Nat} : AbsT (tNeNil K i) (dNeNil i) := ⟨fun σ Hs Fr H env Q C er sf fh h k => by
  obtain ⟨xs, h0, ⟨n, hn, h64⟩, h⟩ := h
  obtain ⟨p, vs, hp, hl, ra, hf⟩ := er.own h0
  refine ⟨_, hp, by show 0 ≤ sizeLine; decide, fun q hq => ?_⟩
  have g := Gr.new sf fh hq (.lst [])
  have np : p ≠ q := fun z => by rw [z, hq] at hl; cases hl
  have nq : Hs q = none := none_of sf (none_of fh hq)
  have ss : Same Hs (upd Hs p (.lst vs)) := same_upd (Same.refl _) (none_of sf hf)
  have hh : Same (upd Hs p (.lst vs)) (upd H q (.lst [])) := fun a o ha => by
    by_cases z : a = p
    · rw [z, upd_same] at ha
      rw [z, upd_ne np, hl]; exact ha
    · rw [upd_ne z] at ha
      have h1 := fh a o (sf a o ha)
      rw [upd_ne (fun z2 => by rw [z2, hq] at h1; cases h1)]
      exact h1
  have r1 : Rp (upd H q (.lst [])) (.ref p) (.lst xs) := (Rp.lstA (H := upd Hs p (.lst vs)) upd_same (ra.mono ss)).mono hh
  have rq : Rp (upd H q (.lst [])) (.ref q) (.lst []) := .lst upd_same rfl fun i v d h1 h2 => by simp at h2
  refine ⟨_, _, r1.dp (hn.shp h64).pln, rq.dp (flat_lrow (r := [])).shp.pln, hn.shp h64, (flat_lrow (r := [])).shp, _, rfl, ?_⟩
  have e : (!PyData.eqv (D.lst xs).toP (D.lst []).toP) = !xs.isEmpty := by
    show (!dEq (.lst xs) (.lst [])) = _
    rw [dEq_nil]
  rw [e]
  exact k _ env _ _ _ (er.gr g) g.st g.sf g.fh h⟩
def dAppPop (i j : Nat) (de : DE) : DS := fun env E => (∃ xs, env[i]? = some (some (.l xs))) ∧ (∃ xs, env[j]? = some (some (.l xs))) ∧ i ≠ j ∧ de env fun y env1 => keepE env env1 ∧ ∃ (k : Nat) (xs ys : List D) (z : D), y = .int k ∧
  env1[i]? = some (some (.l xs)) ∧ env1[j]? = some (some (.l ys)) ∧ ys[k]? = some z ∧ ys.length < 1000000 ∧ xs.length < 100000 ∧ E.nx ((env1.set j (some (.l (ys.eraseIdx k)))).set i (some (.l (xs ++ [z]))))
instance {K K2 : PySem.W.Frag} {i j : Nat} {te : TE} {de : DE} [he : AbsE te de] : AbsS (tAppPop K K2 i j te) (dAppPop i j de) := ⟨fun σ Hs Fr H env D E er sf fh h kn _ _ _ => by
  obtain ⟨⟨xs0, h0⟩, ⟨ys0, h0'⟩, nij, h⟩ := h
  obtain ⟨p, vs, hp, hl, ra, hf⟩ := er.own h0
  obtain ⟨q, us, hq, hlq, raq, hfq⟩ := er.own h0'
  refine ⟨.ref p, hp, Or.inl ⟨rfl, vs, SqL.of hl⟩, .ref q, hq, Or.inl ⟨rfl, us, SqL.of hlq⟩, ?_⟩
  refine he.run σ Hs Fr H env _ _ er sf fh h fun y d env1 Hs1 Fr1 H1 r1 s1 sf1 fh1 ry h1 => ?_
  obtain ⟨ke, k, xs, ys, z, rfl, h2, h3, hz, hlt2, hlt, h1⟩ := h1
  obtain ⟨p', ws, hp', hl', ra', hf'⟩ := r1.own h2
  obtain ⟨q', ts, hq', hlq', raq', hfq'⟩ := r1.own h3
  rw [hp] at hp'; cases hp'
  rw [hq] at hq'; cases hq'
  cases ry.int_inv
  have hk : k < ys.length := (List.getElem?_eq_some_iff.mp hz).1
  obtain ⟨v, hv, rv⟩ := raq'.atD hz
  have sq := (ixN_seq (n := ts.length) (i := ((k : Nat) : Int)) (j := k) (by
    unfold ixN
    rw [if_pos (by omega), if_pos (by rw [raq'.1]; omega)]
    simp)).1
  refine ⟨q, ts, k, k, v, rfl, rfl, hlq', by omega, by omega, sq, hv, ?_⟩
  obtain ⟨fpf, rf⟩ := r1
  have r2 := rf.updL h3 hq (raq'.erase k)
  have h2' : (env1.set j (some (.l (ys.eraseIdx k))))[i]? = some (some (.l xs)) := by rw [List.getElem?_set_ne (Ne.symm nij)]; exact h2
  have npq : p ≠ q := fun e => by
    obtain ⟨v1, e1, q1, vs1, e2, e3, _⟩ := rf.at_ i _ h2
    obtain ⟨v2, f1, q2, vs2, f2, f3, _⟩ := rf.at_ j _ h3
    rw [hp] at e1; cases e1; cases e2
    rw [hq] at f1; cases f1; cases f2
    exact rf.dis i j _ _ nij h2 h3 p (by rw [e3]; simp) (by rw [f3, e]; simp)
  refine ⟨p, ws, v, rfl, rfl, by rw [upd_ne npq]; exact hl', by rw [ra'.1]; exact szlt hlt, ?_⟩
  have r3 := r2.updL h2' hp (ra'.snoc rv)
  exact kn σ _ Hs1 Fr1 _ ⟨fpf, r3⟩ s1 sf1 (same_updF (same_updF fh1 hfq') hf') (((Kp.ofE ke).trans (.setL _ h3)).trans (.setL _ h2')) h1⟩
theorem EnvF.heap {Hs Fr H H' : Hp} {σ : L2.St} {env : Env} {fp : Nat → List Addr} (r : EnvF Hs Fr H σ env fp) (s : Same H H') : EnvF Hs Fr H' σ env fp :=
  ⟨r.len, fun i e he => let ⟨v, h1, h2⟩ := r.at_ i e he; ⟨v, h1, En.mono h2 (Same.refl _) fun a ha => by
    cases q : H a with
    | none => exact absurd q (En.known h2 a ha)
    | some o => exact s a o q⟩, r.fr, r.dis⟩
/-- xs, ys = (.., []) -/
def dParO (i j : Nat) (dn : DA) : DS := fun env E => i ≠ j ∧ dn env fun xs env1 => keepE env env1 ∧ free env1 i = true ∧ free env1 j = true ∧ E.nx ((env1.set i (some (.l xs))).set j (some (.l [])))
instance {te : TE} {dn : DA} {i j : Nat} [he : AbsN te dn] : AbsS (tParO i j te (tLst tNil)) (dParO i j dn) := ⟨fun σ Hs Fr H env D E er sf fh h kn _ _ _ => by
  obtain ⟨nij, h⟩ := h
  refine he.run σ Hs Fr H env _ _ er sf fh h fun p vs ds env1 Hs1 Fr1 H1 Fe r1 s1 sf1 fe eh off fp1 ep ra hc => ?_
  obtain ⟨ke, f1, f2, h1⟩ := hc
  obtain ⟨fpf, rf⟩ := r1
  have nin := rf.not (.inl (ne_some ep))
  have rf' : EnvF Hs1 Fr1 H1 σ env1 fpf := ⟨rf.len, rf.at_, fun i e he a ha => by
    have hne : a ≠ p := fun z => nin i e he (z ▸ ha)
    rw [← off a hne]; exact rf.fr i e he a ha, rf.dis⟩
  have r2 := rf'.setL i (eh _ _ ep) ra fp1 nin
  refine ⟨by show 0 ≤ sizeLine; decide, fun q hq => ⟨.ref p, .ref q, rfl, ?_⟩⟩
  have hfq : Fr1 q = none := none_of (fe.trans eh) hq
  have r3 := r2.heap (H' := upd H1 q (.lst [])) (same_upd (Same.refl _) hq)
  have r4 := r3.setL (p := q) (vs := []) (xs := []) j upd_same .nil hfq fun k e hk hm => by
    obtain ⟨v, e1, e2⟩ := r2.at_ k e hk
    exact absurd hq (En.known e2 q hm)
  have f2' : free (env1.set i (some (.l ds))) j = true := by
    unfold free
    rw [List.getElem?_set_ne nij]
    exact f2
  exact kn _ _ Hs1 Fr1 _ ⟨_, r4⟩ s1 sf1 (same_upd (fe.trans eh) hfq) ((Kp.ofE ke).trans ((Kp.set _ _ f1).trans (Kp.set _ _ f2'))) h1⟩
def dNewL (da : DA) : DA := fun env C => da env fun xs env1 => xs.length ≤ 100000 ∧ C xs env1
def dNewOf (da : DA) : DA := fun env C => da env fun as env1 => ∃ a xs, as = [a] ∧ a.items? = some xs ∧ C xs env1
section
variable {env : Env} {da : DA} {xs : List D} {E : DEnds} {i j : Nat} {s : DS} {a : DE}
theorem ea_newL (h : EvA da env xs) (l : xs.length ≤ 100000) : EvA (dNewL da) env xs := fun C k => h _ fun _ e => by subst e; exact ⟨l, k _ rfl⟩
theorem ea_newOf {x : D} (h : EvA da env [x]) (e : x.items? = some xs) : EvA (dNewOf da) env xs := fun C k => h _ fun _ e2 => ⟨x, xs, e2, e, k _ rfl⟩
theorem st_asgO {T : List D → Prop} (h : Ea da env T) (f : free env i = true) (k : ∀ xs, T xs → E.nx (env.set i (some (.l xs)))) : dAsgO da i env E := h _ fun xs hx => ⟨keepE_refl, f, k xs hx⟩
theorem st_parO (h : EvA da env xs) (n : i ≠ j) (f1 : free env i = true) (f2 : free env j = true) (k : E.nx ((env.set i (some (.l xs))).set j (some (.l [])))) : dParO i j da env E := ⟨n, h _ fun _ e => by subst e; exact ⟨keepE_refl, f1, f2, k⟩⟩
theorem et_neNil {n : Nat} (h : env[i]? = some (some (.l xs))) (f : flat n (.lst xs)) (l : n ≤ 64 := by decide) : EvT (dNeNil i) env (!xs.isEmpty) := fun C k => ⟨xs, h, ⟨n, f, l⟩, k _ rfl⟩
theorem st_frz (h : env[i]? = some (some (.l xs))) (k : s (env.set i (some (.d (.lst xs)))) E) : dFrz i s env E := ⟨xs, h, k⟩
theorem st_app {S : D → Prop} (hx : env[i]? = some (some (.l xs))) (h : Es a env S) (l : xs.length < 100000) (k : ∀ d, S d → E.nx (env.set i (some (.l (xs ++ [d]))))) : dAppO i a env E := ⟨⟨xs, hx⟩, h _ fun d hd => ⟨keepE_refl, xs, hx, l, k d hd⟩⟩
theorem st_appPop {ys : List D} {S : D → Prop} (hx : env[i]? = some (some (.l xs))) (hy : env[j]? = some (some (.l ys))) (n : i ≠ j) (h : Es a env S) (l1 : ys.length < 1000000) (l2 : xs.length < 100000)
    (k : ∀ d, S d → ∃ (m : Nat) (z : D), d = .int m ∧ ys[m]? = some z ∧ E.nx ((env.set j (some (.l (ys.eraseIdx m)))).set i (some (.l (xs ++ [z]))))) : dAppPop i j a env E :=
  ⟨⟨xs, hx⟩, ⟨ys, hy⟩, n, h _ fun d hd => let ⟨m, z, e, hz, q⟩ := k d hd; ⟨keepE_refl, m, xs, ys, z, e, hx, hy, hz, l1, l2, q⟩⟩
end
/-- len of a list of one's own -/
def tLenO (K : PySem.W.Frag) (i : Nat) : TE := tCB (rLenQ K) (tCons (tVar i) tNil)
theorem pe_lenO {X : Cx} {K : PySem.W.Frag} {e : Expr} {i : Nat} (h : PE X e (tCB (rLenQ K) (tCons (tVar i) tNil))) : PE X e (tLenO K i) := h
def dLenO (i : Nat) : DE := fun env C => ∃ xs, env[i]? = some (some (.l xs)) ∧ C (.int xs.length) env
instance {K : PySem.W.Frag} {i : Nat} : AbsE (tLenO K i) (dLenO i) := ⟨fun σ Hs Fr H env Q C er sf fh h k => by
  obtain ⟨xs, h0, h⟩ := h
  obtain ⟨p, vs, hp, hl, ra, hf⟩ := er.own h0
  refine ⟨_, hp, ?_⟩
  refine ⟨p, vs, rfl, .inl (SqL.of hl), ?_⟩
  rw [ra.1]
  exact k _ _ env Hs Fr H er (Stp.refl _ _) sf fh (.int _) h⟩
theorem ev_lenO {env : Env} {xs : List D} {i : Nat} (h : env[i]? = some (some (.l xs))) : Ev (dLenO i) env (.int xs.length) := fun C k => ⟨xs, h, k _ rfl⟩
end Lf
set_option Elab.async false
set_option linter.all false
set_option maxRecDepth 100000
set_option maxHeartbeats 4000000
/-! Instances that are read alone: their methods -/
namespace Lf
open PySem PySem.Spec PyProof.Rows L2 RZ
abbrev Flds := List (Str × D)
def RecAt (H : Hp) (C : Addr) (v : V) (fs : Flds) : Prop := ∃ p dx fsV, v = .ref p ∧ H p = some (.ins C dx fsV) ∧ (∀ f, fs.lookup f = none → fsV.lookup f = none) ∧ ∀ f d, fs.lookup f = some d → ∃ u, fsV.lookup f = some u ∧ Rp H u d
theorem RecAt.mono {H H' : Hp} {C : Addr} {v : V} {fs : Flds} (r : RecAt H C v fs) (s : Same H H') : RecAt H' C v fs := by
  obtain ⟨p, dx, fsV, h1, h2, h3, h4⟩ := r
  exact ⟨p, dx, fsV, h1, s _ _ h2, h3, fun f d hf => let ⟨u, e1, e2⟩ := h4 f d hf; ⟨u, e1, e2.mono s⟩⟩
def recO (C : Addr) (fs : Flds) : Ow where
  At := fun Hs _ v fp => fp = [] ∧ RecAt Hs C v fs
  mono := fun ⟨h1, h2⟩ s _ => ⟨h1, h2.mono s⟩
  known := fun ⟨h1, _⟩ a ha => by rw [h1] at ha; simp at ha
/-- an object that can be read as an instance with these fields -/
def AsRec (w : Ow) (C : Addr) (fs : Flds) : Prop := ∀ (Hs H : Hp) (v : V) (fp : List Addr), Same Hs H → w.At Hs H v fp → RecAt H C v fs
theorem asRec_rec {C : Addr} {fs : Flds} : AsRec (recO C fs) C fs := fun Hs H v fp s h => h.2.mono s
/-- e.f, by the class's facts -/
def tFldC (C : Addr) (ta : TE) (f : Str) : TE := fun σ H Q => ta σ H fun x H1 => ∃ a dx fs v, x = .ref a ∧ H1 a = some (.ins C dx fs) ∧ fs.lookup f = some v ∧ Q v H1
theorem pe_fldC {X : Cx} {e : Expr} {f : Str} {pos : Pos} {ta : TE} {C : Addr} (c : Cls X.K C) (n : NoAttr X.K C f) (he : PE X e ta) (hb : attributeBase e f X.env (eval e X.env) = eval e X.env := by rfl) : PE X (.Attribute e f pos) (tFldC C ta f) := by
  refine ⟨fun pins s σ H Q I h0 => attr_of hb (thn (he.run pins s σ H _ I h0) fun u t ⟨x, H1, J, rx, a, dx, fs, v, ex, ea, l, q⟩ => ?_)⟩
  subst ex ; obtain rfl : u = Value.ref a := rx
  exact getattr_ok J ea c n l fun u' s2 I2 ru => ⟨v, H1, I2, ru, q⟩
def dFld (C : Addr) (i : Nat) (f : Str) : DE := fun env K => ∃ fs d, env[i]? = some (some (.o (recO C fs))) ∧ fs.lookup f = some d ∧ K d env
instance {C : Addr} {i : Nat} {f : Str} : AbsE (tFldC C (tVar i) f) (dFld C i f) := ⟨fun σ Hs Fr H env Q K er sf fh h k => by
  obtain ⟨fs, d, hw, hl, h⟩ := h
  obtain ⟨fp, r⟩ := er
  obtain ⟨v0, hv, _, p, dx, fsV, h1, h2, h3, h4⟩ := r.val hw
  obtain ⟨u, e1, e2⟩ := h4 f d hl
  subst h1
  exact ⟨_, hv, p, dx, fsV, u, rfl, (sf.trans fh) _ _ h2, e1, k u d env Hs Fr H ⟨fp, r⟩ (Stp.refl _ _) sf fh e2 h⟩⟩
theorem ev_fld {C : Addr} {env : Env} {i : Nat} {f : Str} {fs : Flds} {d : D} (h : env[i]? = some (some (.o (recO C fs)))) (e : fs.lookup f = some d) : Ev (dFld C i f) env d := fun K k => ⟨fs, d, h, e, k d rfl⟩
/-! promises of those that read alone -/
def imm : D → Prop
  | .lst _ => False
  | .tup _ => False
  | .op _ => False
  | _ => True
/-- a plain value, or a new list of ints -/
def VRes (H H' : Hp) (v : V) (d : D) : Prop := (imm d ∧ Rp H' v d) ∨ ∃ (q : Addr) (ns : List Int), v = .ref q ∧ H q = none ∧ d = .lst (ns.map D.int) ∧ H' q = some (.lst (ns.map V.int))
abbrev VW := Flds → List D → (D → Prop) → Prop
def VSp (C : Addr) (n : Nat) (vw : VW) : Sp := fun vs H Q _ => vs.length = n ∧ ∃ v0 vs' fs ds K, vs = v0 :: vs' ∧ RecAt H C v0 fs ∧ RpA H vs' ds ∧ vw fs ds K ∧ ∀ v d H', Same H H' → VRes H H' v d → K d → Q v H'
theorem VSp.len {C : Addr} {n : Nat} {vw : VW} {vs : List V} {H : Hp} {Q : VK} {E : XK} (h : VSp C n vw vs H Q E) : vs.length = n := h.1
/-- a result, as data -/
theorem VRes.data {Hs Fr H H' : Hp} {v : V} {d : D} {σ : L2.St} {env : Env} (r : VRes H H' v d) (er : EnvR Hs Fr H σ env) (sf : Same Hs Fr) (fh : Same Fr H) (s : Same H H') :
    ∃ Hs' Fr', EnvR Hs' Fr' H' σ env ∧ Stp Hs Fr Hs' Fr' ∧ Same Hs' Fr' ∧ Same Fr' H' ∧ Rp Hs' v d := by
  obtain ⟨fp, rf⟩ := er
  rcases r with ⟨hi, rv⟩ | ⟨q, ns, rfl, hq, rfl, hq'⟩
  · refine ⟨Hs, Fr, ⟨fp, rf.heap s⟩, Stp.refl _ _, sf, fh.trans s, ?_⟩
    cases rv with
    | non => exact .non
    | bl b => exact .bl b
    | int i => exact .int i
    | str x => exact .str x
    | lst _ _ _ => exact hi.elim
    | tup _ _ _ => exact hi.elim
    | op _ _ => exact hi.elim
  · have hf : Fr q = none := none_of fh hq
    have hs : Hs q = none := none_of sf hf
    have ss : Same Hs (upd Hs q (.lst (ns.map V.int))) := same_upd (Same.refl _) hs
    have nin := rf.not (.inr hq)
    refine ⟨upd Hs q (.lst (ns.map V.int)), upd Fr q (.lst (ns.map V.int)), ⟨fp, (rf.heap s).frz ss nin (fun a _ => rfl) fun a ha h => by rw [upd_ne ha]; exact h⟩, ⟨ss, same_upd (Same.refl _) hf, fun a h1 h2 => ?_⟩, same_upd2 sf, fun a o ha => ?_, rp_ints upd_same⟩
    · have : a ≠ q := fun z => h1 (z ▸ hf)
      rw [upd_ne this]; exact h2
    · by_cases z : a = q
      · rw [z, upd_same] at ha
        rw [z, hq']; exact ha
      · rw [upd_ne z] at ha
        exact s a o (fh a o ha)
/-- a method of the object in the slot i, that reads alone -/
def tMethV (C : Addr) (m : Str) (sp : Sp) (i : Nat) (t : TA) : TE := tMeth C m sp [] E0 (tVar i) t
theorem pe_methV {X : Cx} {e : Expr} {C : Addr} {m : Str} {sp : Sp} {i : Nat} {t : TA} (h : PE X e (tMeth C m sp [] E0 (tVar i) t)) : PE X e (tMethV C m sp i t) := h
def dMethV (C : Addr) (m : Str) (n : Nat) (vw : VW) (i : Nat) (da : DA) : DE := fun env K => ∃ w fs, env[i]? = some (some (.o w)) ∧ AsRec w C fs ∧ fs.lookup m = none ∧ da env fun ds env1 => env1[i]? = some (some (.o w)) ∧ ds.length + 1 = n ∧ vw fs ds fun d => K d env1
instance {C : Addr} {m : Str} {n : Nat} {vw : VW} {i : Nat} {t : TA} {da : DA} [ha : AbsA t da] : AbsE (tMethV C m (VSp C n vw) i t) (dMethV C m n vw i da) := ⟨fun σ Hs Fr H env Q K er sf fh h k => by
  obtain ⟨w, fs, hw, as, hl, h⟩ := h
  have er0 := er
  obtain ⟨fp, r⟩ := er
  obtain ⟨v0, hv, at0⟩ := r.val hw
  obtain ⟨p, dx, fsV, h1, h2, h3, h4⟩ := as Hs H v0 _ (sf.trans fh) at0
  subst h1
  refine ⟨_, hv, p, dx, fsV, rfl, h2, h3 m hl, ?_⟩
  refine ha.run σ Hs Fr H env _ _ er0 sf fh h fun vs ds env1 Hs1 Fr1 H1 r1 s1 sf1 fh1 ra hc => ?_
  obtain ⟨hw1, hn, hv1⟩ := hc
  have r1' := r1
  obtain ⟨fp1, rf⟩ := r1
  obtain ⟨v1, hv1', at1⟩ := rf.val hw1
  rw [hv] at hv1'
  cases hv1'
  refine ⟨by simp [ra.1]; exact hn, .ref p, vs, fs, ds, _, by simp, as Hs1 H1 _ _ (sf1.trans fh1) at1, ra.mono (sf1.trans fh1), hv1, fun v d H' s res c => ?_⟩
  obtain ⟨Hs', Fr', r', st', sf', fh', rv⟩ := res.data r1' sf1 fh1 s
  exact k v d env1 Hs' Fr' H' r' (s1.trans st') sf' fh' rv c⟩
/-- a def whose first argument is the object in the slot i, that reads alone -/
def tCallV (sp : Sp) (i : Nat) (t : TA) : TE := tCall sp [] E0 (tCons (tVar i) t)
theorem pe_callV {X : Cx} {e : Expr} {sp : Sp} {i : Nat} {t : TA} (h : PE X e (tCall sp [] E0 (tCons (tVar i) t))) : PE X e (tCallV sp i t) := h
def dCallV (C : Addr) (n : Nat) (vw : VW) (i : Nat) (da : DA) : DE := fun env K => ∃ w fs, env[i]? = some (some (.o w)) ∧ AsRec w C fs ∧ da env fun ds env1 => env1[i]? = some (some (.o w)) ∧ ds.length + 1 = n ∧ vw fs ds fun d => K d env1
instance {C : Addr} {n : Nat} {vw : VW} {i : Nat} {t : TA} {da : DA} [ha : AbsA t da] : AbsE (tCallV (VSp C n vw) i t) (dCallV C n vw i da) := ⟨fun σ Hs Fr H env Q K er sf fh h k => by
  obtain ⟨w, fs, hw, as, h⟩ := h
  have er0 := er
  obtain ⟨fp, r⟩ := er
  obtain ⟨v0, hv, at0⟩ := r.val hw
  refine ⟨v0, hv, ?_⟩
  refine ha.run σ Hs Fr H env _ _ er0 sf fh h fun vs ds env1 Hs1 Fr1 H1 r1 s1 sf1 fh1 ra hc => ?_
  obtain ⟨hw1, hn, hv1⟩ := hc
  have r1' := r1
  obtain ⟨fp1, rf⟩ := r1
  obtain ⟨v1, hv1', at1⟩ := rf.val hw1
  rw [hv] at hv1'
  cases hv1'
  refine ⟨by simp [ra.1]; exact hn, v0, vs, fs, ds, _, by simp, as Hs1 H1 _ _ (sf1.trans fh1) at1, ra.mono (sf1.trans fh1), hv1, fun v d H' s res c => ?_⟩
  obtain ⟨Hs', Fr', r', st', sf', fh', rv⟩ := res.data r1' sf1 fh1 s
  exact k v d env1 Hs' Fr' H' r' (s1.trans st') sf' fh' rv c⟩
section
variable {C : Addr} {env : Env} {i n : Nat} {vw : VW} {da : DA} {ds : List D} {w : Ow} {fs : Flds} {S : D → Prop} {m : Str}
theorem es_methV (hw : env[i]? = some (some (.o w))) (as : AsRec w C fs) (hm : fs.lookup m = none) (h : EvA da env ds) (l : ds.length + 1 = n) (k : ∀ K : D → Prop, (∀ d, S d → K d) → vw fs ds K) : Es (dMethV C m n vw i da) env S := fun K q =>
  ⟨w, fs, hw, as, hm, h _ fun _ e => by subst e; exact ⟨hw, l, k _ fun d hd => q d hd⟩⟩
theorem es_callV (hw : env[i]? = some (some (.o w))) (as : AsRec w C fs) (h : EvA da env ds) (l : ds.length + 1 = n) (k : ∀ K : D → Prop, (∀ d, S d → K d) → vw fs ds K) : Es (dCallV C n vw i da) env S := fun K q =>
  ⟨w, fs, hw, as, h _ fun _ e => by subst e; exact ⟨hw, l, k _ fun d hd => q d hd⟩⟩
end
/-! bodies -/
theorem rec_env {C : Addr} {H : Hp} {v0 : V} {fs : Flds} {vs : List V} {as : List D} (k : Nat) (r : RecAt H C v0 fs) (ra : RpA H vs as) : EnvF H H H (some v0 :: (vs.map some ++ List.replicate k none)) (some (.o (recO C fs)) :: env0 k as) (fun _ => []) := by
  have r1 := envR_start (Hs := H) (Fr := H) (H := H) k ra
  refine ⟨by simpa using r1.len, fun i e he => ?_, fun i e he a ha => by simp at ha, fun i j e e' _ _ _ a ha => by simp at ha⟩
  cases i with
  | zero =>
    cases he
    exact ⟨v0, rfl, rfl, r⟩
  | succ i =>
    obtain ⟨v, h1, h2⟩ := r1.at_ i e (by simpa using he)
    exact ⟨v, by simpa using h1, by simpa using h2⟩
theorem start_cons {N : List Str} {v0 : V} {vs : List V} {n : Nat} (hl : (v0 :: vs).length = n) : start N (v0 :: vs) = some v0 :: (vs.map some ++ List.replicate (N.length - n) none) := by
  rw [start_eq, hl]; rfl
theorem vs_body {C : Addr} {n : Nat} {vw : VW} {N : List Str} {t : TS} {dS : DS} {vs : List V} {H : Hp} {Q : VK} {E : XK} (h : VSp C n vw vs H Q E) (ha : AbsS t dS)
    (body : ∀ fs as K, as.length + 1 = n → vw fs as K → dS (some (.o (recO C fs)) :: env0 (N.length - n) as) { nx := fun _ => K .non, rt := fun d _ => imm d ∧ K d }) : t { nx := fun _ H' => Q .non H', rt := Q } (start N vs) H := by
  obtain ⟨hl, v0, vs', fs, as, K, rfl, r, ra, hw, hK⟩ := h
  have e : as.length + 1 = n := by rw [← ra.1]; simpa using hl
  rw [start_cons hl]
  refine ha.run _ H H H _ _ _ ⟨_, rec_env _ r ra⟩ (Same.refl _) (Same.refl _) (body fs as K e hw) ?_ ?_ ?_ ?_
  · exact fun σ' env' Hs' Fr' H' r' s' sf' fh' k' c => hK .non .non H' (s'.f.trans fh') (.inl ⟨trivial, .non⟩) c
  · exact fun v d σ' env' Hs' Fr' H' r' s' sf' fh' k' rv c => hK v d H' (s'.f.trans fh') (.inl ⟨c.1, rv.mono (sf'.trans fh')⟩) c.2
  · exact fun σ' env' Hs' Fr' H' r' s' sf' fh' k' c => c.elim
  · exact fun σ' env' Hs' Fr' H' r' s' sf' fh' k' c => c.elim
theorem ints_of {H : Hp} {vs : List V} {ns : List Int} (r : RpA H vs (ns.map .int)) : vs = ns.map V.int := by
  apply List.ext_getElem?
  intro i
  rw [List.getElem?_map]
  cases q : ns[i]? with
  | none =>
    have l := r.1
    rw [List.length_map] at l
    have := List.getElem?_eq_none_iff.mp q
    rw [List.getElem?_eq_none (by omega)]; rfl
  | some n =>
    obtain ⟨v, hv, rv⟩ := r.atD (i := i) (d := .int n) (by rw [List.getElem?_map, q]; rfl)
    rw [hv, rv.int_inv]; rfl
/-- a def of one return of a new list -/
theorem ls_body {C : Addr} {n : Nat} {vw : VW} {N : List Str} {te : TE} {dn : DA} {vs : List V} {H : Hp} {Q : VK} {E : XK} (h : VSp C n vw vs H Q E) (ha : AbsN te dn)
    (body : ∀ fs as K, as.length + 1 = n → vw fs as K → dn (some (.o (recO C fs)) :: env0 (N.length - n) as) fun xs _ => ∃ ns : List Int, xs = ns.map .int ∧ K (.lst (ns.map .int))) : tRet te { nx := fun _ H' => Q .non H', rt := Q } (start N vs) H := by
  obtain ⟨hl, v0, vs', fs, as, K, rfl, r, ra, hw, hK⟩ := h
  have e : as.length + 1 = n := by rw [← ra.1]; simpa using hl
  rw [start_cons hl]
  refine ha.run _ H H H _ _ _ ⟨_, rec_env _ r ra⟩ (Same.refl _) (Same.refl _) (body fs as K e hw) fun p ws ds env' Hs' Fr' H' Fe r1 s1 sf1 fe eh off fp1 ep rw1 hc => ?_
  obtain ⟨ns, rfl, c⟩ := hc
  rw [ints_of rw1] at ep
  exact hK _ _ H' ((s1.f.trans fe).trans eh) (.inr ⟨p, ns, rfl, none_of s1.f fp1, rfl, eh _ _ ep⟩) c
/-- a def that returns its own list in the slot i behind the rest -/
theorem ls_body2 {C : Addr} {n : Nat} {vw : VW} {N : List Str} {t : TS} {dS : DS} {i : Nat} {vs : List V} {H : Hp} {Q : VK} {E : XK} (h : VSp C n vw vs H Q E) (ha : AbsS t dS)
    (body : ∀ fs as K, as.length + 1 = n → vw fs as K → dS (some (.o (recO C fs)) :: env0 (N.length - n) as) { nx := fun env' => ∃ ns : List Int, env'[i]? = some (some (.l (ns.map .int))) ∧ K (.lst (ns.map .int)), rt := fun _ _ => False }) :
    tSeq t (tRet (tVar i)) { nx := fun _ H' => Q .non H', rt := Q } (start N vs) H := by
  obtain ⟨hl, v0, vs', fs, as, K, rfl, r, ra, hw, hK⟩ := h
  have e : as.length + 1 = n := by rw [← ra.1]; simpa using hl
  rw [start_cons hl]
  refine ha.run _ H H H _ _ _ ⟨_, rec_env _ r ra⟩ (Same.refl _) (Same.refl _) (body fs as K e hw) ?_ ?_ ?_ ?_
  · rintro σ' env' Hs' Fr' H' r' s' sf' fh' k' ⟨ns, he, c⟩
    obtain ⟨q, ws, h1, h2, h3, h4⟩ := r'.own he
    rw [ints_of h3] at h2
    exact ⟨_, h1, hK _ _ H' (s'.f.trans fh') (.inr ⟨q, ns, rfl, none_of s'.f h4, rfl, h2⟩) c⟩
  · exact fun v d σ' env' Hs' Fr' H' r' s' sf' fh' k' rv c => c.elim
  · exact fun σ' env' Hs' Fr' H' r' s' sf' fh' k' c => c.elim
  · exact fun σ' env' Hs' Fr' H' r' s' sf' fh' k' c => c.elim
end Lf
set_option Elab.async false
set_option linter.all false
set_option maxRecDepth 100000
set_option maxHeartbeats 4000000
/-! The basis of the search, as an object of one's own -/
namespace Lf
open PySem PySem.Spec PyProof.Rows L2 RZ
structure BSt where
  scale : Int
  levels : List Int
  members : List (Option Nat)
  inverse : List (List Int)
def memD : Option Nat → D
  | none => .non
  | some j => .int (j : Nat)
def memV : Option Nat → V
  | none => .non
  | some j => .int (j : Nat)
def rowL (r : List Int) : D := .lst (r.map .int)
def BSt.flds (st : BSt) : Flds := [(("scale" : Str), .int st.scale), (("levels" : Str), .lst (st.levels.map .int)), (("members" : Str), .lst (st.members.map memD)), (("inverse" : Str), .lst (st.inverse.map rowL))]
structure BasAt (Hs H : Hp) (C : Addr) (st : BSt) (v : V) (fp : List Addr) (p dx l1 l2 l3 : Addr) (fsV : List (Str × V)) (rows : List V) : Prop where
  ev : v = .ref p
  ef : fp = [p, dx, l1, l2, l3]
  n12 : l1 ≠ l2
  n13 : l1 ≠ l3
  n23 : l2 ≠ l3
  hp : H p = some (.ins C dx fsV)
  hd : H dx = some (.own p)
  few : fsV.length < 1000
  g0 : fsV.lookup ("scale" : Str) = some (.int st.scale)
  g1 : fsV.lookup ("levels" : Str) = some (.ref l1)
  g2 : fsV.lookup ("members" : Str) = some (.ref l2)
  g3 : fsV.lookup ("inverse" : Str) = some (.ref l3)
  gn : ∀ f, st.flds.lookup f = none → fsV.lookup f = none
  h1 : H l1 = some (.lst (st.levels.map V.int))
  h2 : H l2 = some (.lst (st.members.map memV))
  h3 : H l3 = some (.lst rows)
  hr : RpA Hs rows (st.inverse.map rowL)
def bas (C : Addr) (st : BSt) : Ow where
  At := fun Hs H v fp => ∃ p dx l1 l2 l3 fsV rows, BasAt Hs H C st v fp p dx l1 l2 l3 fsV rows
  mono := fun {Hs H Hs' H' v fp} ⟨p, dx, l1, l2, l3, fsV, rows, d⟩ s k =>
    ⟨p, dx, l1, l2, l3, fsV, rows, { d with
      hp := by rw [k p (by rw [d.ef]; simp)]; exact d.hp
      hd := by rw [k dx (by rw [d.ef]; simp)]; exact d.hd
      h1 := by rw [k l1 (by rw [d.ef]; simp)]; exact d.h1
      h2 := by rw [k l2 (by rw [d.ef]; simp)]; exact d.h2
      h3 := by rw [k l3 (by rw [d.ef]; simp)]; exact d.h3
      hr := d.hr.mono s }⟩
  known := fun {Hs H v fp} ⟨p, dx, l1, l2, l3, fsV, rows, d⟩ a ha => by
    rw [d.ef] at ha
    have : a = p ∨ a = dx ∨ a = l1 ∨ a = l2 ∨ a = l3 := by simpa using ha
    rcases this with rfl | rfl | rfl | rfl | rfl
    · exact ne_some d.hp
    · exact ne_some d.hd
    · exact ne_some d.h1
    · exact ne_some d.h2
    · exact ne_some d.h3
theorem rp_mems {H : Hp} {l : Addr} {ms : List (Option Nat)} (h : H l = some (.lst (ms.map memV))) : Rp H (.ref l) (.lst (ms.map memD)) := .lst h (by simp) fun i v d h1 h2 => by
  rw [List.getElem?_map] at h1 h2
  cases q : ms[i]? with
  | none => rw [q] at h1; cases h1
  | some m =>
    rw [q] at h1 h2; cases h1; cases h2
    cases m with
    | none => exact .non
    | some j => exact .int _
theorem flds_get (st : BSt) (f : Str) (d : D) (h : st.flds.lookup f = some d) : (f = ("scale" : Str) ∧ d = .int st.scale) ∨ (f = ("levels" : Str) ∧ d = .lst (st.levels.map .int)) ∨ (f = ("members" : Str) ∧ d = .lst (st.members.map memD)) ∨ (f = ("inverse" : Str) ∧ d = .lst (st.inverse.map rowL)) := by
  unfold BSt.flds at h
  simp only [List.lookup] at h
  split at h
  · next e => exact .inl ⟨by simpa using e, by simpa using h.symm⟩
  · split at h
    · next e => exact .inr (.inl ⟨by simpa using e, by simpa using h.symm⟩)
    · split at h
      · next e => exact .inr (.inr (.inl ⟨by simpa using e, by simpa using h.symm⟩))
      · split at h
        · next e => exact .inr (.inr (.inr ⟨by simpa using e, by simpa using h.symm⟩))
        · cases h
theorem asRec_bas {C : Addr} {st : BSt} : AsRec (bas C st) C st.flds := fun Hs H v fp s ⟨p, dx, l1, l2, l3, fsV, rows, d⟩ => by
  refine ⟨p, dx, fsV, d.ev, d.hp, d.gn, fun f x hx => ?_⟩
  rcases flds_get st f x hx with ⟨rfl, rfl⟩ | ⟨rfl, rfl⟩ | ⟨rfl, rfl⟩ | ⟨rfl, rfl⟩
  · exact ⟨_, d.g0, .int _⟩
  · exact ⟨_, d.g1, rp_ints d.h1⟩
  · exact ⟨_, d.g2, rp_mems d.h2⟩
  · exact ⟨_, d.g3, .lstA d.h3 (d.hr.mono s)⟩
/-! reading a part of it, while it is one's own -/
/-- o.f[x] -/
def tFldIx (K : PySem.W.Frag) (C : Addr) (i : Nat) (f : Str) (j : Nat) : TE := tOp (fun x y H Q => rIxL K x y H Q ∨ rIxT K x y H Q) (tFldC C (tVar i) f) (tVar j)
theorem pe_fldIx {X : Cx} {K : PySem.W.Frag} {e : Expr} {C : Addr} {i : Nat} {f : Str} {j : Nat} (h : PE X e (tOp (fun x y H Q => rIxL K x y H Q ∨ rIxT K x y H Q) (tFldC C (tVar i) f) (tVar j))) : PE X e (tFldIx K C i f j) := h
def dFldIx (C : Addr) (i : Nat) (f : Str) (j : Nat) : DE := fun env Q => ∃ st, env[i]? = some (some (.o (bas C st))) ∧ ∃ k : Nat, env[j]? = some (some (.d (.int k))) ∧
  ((f = ("levels" : Str) ∧ ∃ z, st.levels[k]? = some z ∧ Q (.int z) env) ∨ (f = ("inverse" : Str) ∧ ∃ r, st.inverse[k]? = some r ∧ Q (rowL r) env))
instance {K : PySem.W.Frag} {C : Addr} {i : Nat} {f : Str} {j : Nat} : AbsE (tFldIx K C i f j) (dFldIx C i f j) := ⟨fun σ Hs Fr H env Q Kk er sf fh h k => by
  obtain ⟨st, hw, n, hj, h⟩ := h
  have er0 := er
  obtain ⟨y, hy, ry⟩ := er.dat hj
  cases ry.int_inv
  obtain ⟨fp, r⟩ := er
  obtain ⟨v0, hv, p, dx, l1, l2, l3, fsV, rows, d⟩ := r.val hw
  have e0 := d.ev
  subst e0
  rcases h with ⟨rfl, z, hz, h⟩ | ⟨rfl, rw', hz, h⟩
  · exact ⟨_, hv, p, dx, fsV, _, rfl, d.hp, d.g1, _, hy, .inl ⟨l1, _, _, _, rfl, rfl, SqL.of d.h1, atI_nat (by rw [List.getElem?_map, hz]; rfl), k _ _ env Hs Fr H er0 (Stp.refl _ _) sf fh (.int z) h⟩⟩
  · obtain ⟨v, hv1, rv⟩ := d.hr.atD (i := n) (d := rowL rw') (by rw [List.getElem?_map, hz]; rfl)
    exact ⟨_, hv, p, dx, fsV, _, rfl, d.hp, d.g3, _, hy, .inl ⟨l3, _, _, _, rfl, rfl, SqL.of d.h3, atI_nat hv1, k _ _ env Hs Fr H er0 (Stp.refl _ _) sf fh rv h⟩⟩⟩
/-- o.scale -/
def tFldO (C : Addr) (i : Nat) (f : Str) : TE := tFldC C (tVar i) f
theorem pe_fldO {X : Cx} {e : Expr} {C : Addr} {i : Nat} {f : Str} (h : PE X e (tFldC C (tVar i) f)) : PE X e (tFldO C i f) := h
def dFldO (C : Addr) (i : Nat) (f : Str) : DE := fun env Q => ∃ st, env[i]? = some (some (.o (bas C st))) ∧ f = ("scale" : Str) ∧ Q (.int st.scale) env
instance {C : Addr} {i : Nat} {f : Str} : AbsE (tFldO C i f) (dFldO C i f) := ⟨fun σ Hs Fr H env Q Kk er sf fh h k => by
  obtain ⟨st, hw, rfl, h⟩ := h
  have er0 := er
  obtain ⟨fp, r⟩ := er
  obtain ⟨v0, hv, p, dx, l1, l2, l3, fsV, rows, d⟩ := r.val hw
  have e0 := d.ev
  subst e0
  exact ⟨_, hv, p, dx, fsV, _, rfl, d.hp, d.g0, k _ _ env Hs Fr H er0 (Stp.refl _ _) sf fh (.int _) h⟩⟩
/-! writing a part of it -/
theorem flds_none {st st2 : BSt} {f : Str} (h : st2.flds.lookup f = none) : st.flds.lookup f = none := by
  cases h' : st.flds.lookup f with
  | none => rfl
  | some d =>
    rcases flds_get st f d h' with ⟨rfl, _⟩ | ⟨rfl, _⟩ | ⟨rfl, _⟩ | ⟨rfl, _⟩ <;> cases h
theorem length_putF_same {f : Str} {u v : V} : ∀ {fs : List (Str × V)}, fs.lookup f = some u → (putF f v fs).length = fs.length
  | [], h => by cases h
  | (k, x) :: r, h => by
    by_cases e : k = f
    · subst e; simp [putF]
    · have e2 : (f == k) = false := by simpa using fun z => e z.symm
      have h2 : r.lookup f = some u := by
        rw [List.lookup_cons, e2] at h; exact h
      simp only [putF, e, if_false, List.length_cons, length_putF_same h2]
/-- o.f[x] = e -/
def tSetIx (C : Addr) (i : Nat) (f : Str) (j : Nat) (te : TE) : TS := tAsg te (gSub (tFldC C (tVar i) f) (tVar j) rSetL)
theorem ps_setIx {X : Cx} {st : Stmt} {C : Addr} {i : Nat} {f : Str} {j : Nat} {te : TE} (h : PS X st (tAsg te (gSub (tFldC C (tVar i) f) (tVar j) rSetL))) : PS X st (tSetIx C i f j te) := h
def dSetIx (C : Addr) (i : Nat) (f : Str) (j : Nat) (de : DE) : DS := fun env E => de env fun d env1 => keepE env env1 ∧ ∃ (st : BSt) (k : Nat), env1[i]? = some (some (.o (bas C st))) ∧ env1[j]? = some (some (.d (.int k))) ∧
  ((f = ("levels" : Str) ∧ k < st.levels.length ∧ ∃ z, d = .int z ∧ E.nx (env1.set i (some (.o (bas C { st with levels := st.levels.set k z }))))) ∨
   (f = ("members" : Str) ∧ k < st.members.length ∧ ∃ m, d = memD m ∧ E.nx (env1.set i (some (.o (bas C { st with members := st.members.set k m }))))) ∨
   (f = ("inverse" : Str) ∧ k < st.inverse.length ∧ ∃ r, d = rowL r ∧ E.nx (env1.set i (some (.o (bas C { st with inverse := st.inverse.set k r }))))))
theorem ixN_nat {n k : Nat} (h : k < n) : ixN n (k : Int) = some k := by
  unfold ixN
  rw [if_pos (by omega), if_pos (by omega)]
  simp
theorem memD_inv {H : Hp} {v : V} {m : Option Nat} (r : Rp H v (memD m)) : v = memV m := by
  cases m with
  | none => exact r.non_inv
  | some j => exact r.int_inv
theorem RpA.set {H : Hp} {ws : List V} {xs : List D} (r : RpA H ws xs) (k : Nat) {v : V} {d : D} (h : Rp H v d) : RpA H (ws.set k v) (xs.set k d) := by
  refine ⟨by simp [r.1], fun i u e h1 h2 => ?_⟩
  by_cases q : k = i
  · subst q
    have l := (List.getElem?_eq_some_iff.mp h1).1
    have l2 := (List.getElem?_eq_some_iff.mp h2).1
    rw [List.length_set] at l l2
    rw [List.getElem?_set_self l] at h1
    rw [List.getElem?_set_self l2] at h2
    cases h1; cases h2; exact h
  · rw [List.getElem?_set_ne q] at h1 h2
    exact r.2 _ _ _ h1 h2
instance {C : Addr} {i : Nat} {f : Str} {j : Nat} {te : TE} {de : DE} [ha : AbsE te de] : AbsS (tSetIx C i f j te) (dSetIx C i f j de) := ⟨fun σ Hs Fr H env D E er sf fh h kn kr kb kc => by
  refine ha.run σ Hs Fr H env _ _ er sf fh h fun v dd env1 Hs1 Fr1 H1 r1 s1 sf1 fh1 rv hc => ?_
  obtain ⟨ke, st, n, hw, hj, hc⟩ := hc
  obtain ⟨y, hy, ry⟩ := r1.dat hj
  cases ry.int_inv
  obtain ⟨fp, rf⟩ := r1
  obtain ⟨v0, hv, p, dx, l1, l2, l3, fsV, rows, d⟩ := rf.val hw
  have e0 := d.ev
  subst e0
  have kp : ∀ st2, Kp σ env σ (env1.set i (some (.o (bas C st2)))) := fun st2 q w hq => by
    obtain ⟨w2, h2⟩ := ke q w hq
    refine ⟨rfl, ?_⟩
    by_cases z : i = q
    · subst z
      exact ⟨_, List.getElem?_set_self (List.getElem?_eq_some_iff.mp hw).1⟩
    · exact ⟨w2, by rw [List.getElem?_set_ne z]; exact h2⟩
  have out : ∀ a, a ∈ fp i → Fr1 a = none := rf.fr i _ hw
  have fin : ∀ (l : Addr) (ob : HO) (st2 : BSt), l ∈ fp i → (bas C st2).At Hs1 (upd H1 l ob) (.ref p) (fp i) → E.nx (env1.set i (some (.o (bas C st2)))) → D.nx σ (upd H1 l ob) := fun l ob st2 hl hat hE =>
    kn σ _ Hs1 Fr1 _ ⟨fp, rf.own hw hv (fun a ha _ => upd_ne (fun z => ha (z ▸ hl))) hat⟩ s1 sf1 (same_updF fh1 (out l hl)) (kp st2) hE
  have n1p : l1 ≠ p := fun z => by have := d.h1; rw [z, d.hp] at this; cases this
  have n2p : l2 ≠ p := fun z => by have := d.h2; rw [z, d.hp] at this; cases this
  have n3p : l3 ≠ p := fun z => by have := d.h3; rw [z, d.hp] at this; cases this
  have n1d : l1 ≠ dx := fun z => by have := d.h1; rw [z, d.hd] at this; cases this
  have n2d : l2 ≠ dx := fun z => by have := d.h2; rw [z, d.hd] at this; cases this
  have n3d : l3 ≠ dx := fun z => by have := d.h3; rw [z, d.hd] at this; cases this
  rcases hc with ⟨rfl, hk, z, rfl, hE⟩ | ⟨rfl, hk, m, rfl, hE⟩ | ⟨rfl, hk, r, rfl, hE⟩
  · cases rv.int_inv
    refine ⟨_, hv, p, dx, fsV, _, rfl, d.hp, d.g1, _, hy, l1, _, _, n, rfl, rfl, d.h1, by rw [List.length_map]; exact ixN_nat hk, ?_⟩
    refine fin l1 _ _ (by rw [d.ef]; simp) ⟨p, dx, l1, l2, l3, fsV, rows, ?_⟩ hE
    exact { ev := rfl, ef := d.ef, n12 := d.n12, n13 := d.n13, n23 := d.n23, hp := by rw [upd_ne (Ne.symm n1p)]; exact d.hp, hd := by rw [upd_ne (Ne.symm n1d)]; exact d.hd, few := d.few, g0 := d.g0, g1 := d.g1, g2 := d.g2, g3 := d.g3, gn := fun f hf => d.gn f (flds_none hf), h1 := by rw [upd_same, List.map_set], h2 := by rw [upd_ne (Ne.symm d.n12)]; exact d.h2, h3 := by rw [upd_ne (Ne.symm d.n13)]; exact d.h3, hr := d.hr }
  · cases memD_inv rv
    refine ⟨_, hv, p, dx, fsV, _, rfl, d.hp, d.g2, _, hy, l2, _, _, n, rfl, rfl, d.h2, by rw [List.length_map]; exact ixN_nat hk, ?_⟩
    refine fin l2 _ _ (by rw [d.ef]; simp) ⟨p, dx, l1, l2, l3, fsV, rows, ?_⟩ hE
    exact { ev := rfl, ef := d.ef, n12 := d.n12, n13 := d.n13, n23 := d.n23, hp := by rw [upd_ne (Ne.symm n2p)]; exact d.hp, hd := by rw [upd_ne (Ne.symm n2d)]; exact d.hd, few := d.few, g0 := d.g0, g1 := d.g1, g2 := d.g2, g3 := d.g3, gn := fun f hf => d.gn f (flds_none hf), h1 := by rw [upd_ne d.n12]; exact d.h1, h2 := by rw [upd_same, List.map_set], h3 := by rw [upd_ne (Ne.symm d.n23)]; exact d.h3, hr := d.hr }
  · refine ⟨_, hv, p, dx, fsV, _, rfl, d.hp, d.g3, _, hy, l3, _, _, n, rfl, rfl, d.h3, by
      have := d.hr.1
      rw [List.length_map] at this
      rw [this]; exact ixN_nat hk, ?_⟩
    refine fin l3 _ _ (by rw [d.ef]; simp) ⟨p, dx, l1, l2, l3, fsV, rows.set n v, ?_⟩ hE
    exact { ev := rfl, ef := d.ef, n12 := d.n12, n13 := d.n13, n23 := d.n23, hp := by rw [upd_ne (Ne.symm n3p)]; exact d.hp, hd := by rw [upd_ne (Ne.symm n3d)]; exact d.hd, few := d.few, g0 := d.g0, g1 := d.g1, g2 := d.g2, g3 := d.g3, gn := fun f hf => d.gn f (flds_none hf), h1 := by rw [upd_ne d.n13]; exact d.h1, h2 := by rw [upd_ne d.n23]; exact d.h2, h3 := by rw [upd_same], hr := by rw [List.map_set]; exact d.hr.set n rv }⟩
/-- o.f = e -/
def tSetFld (C : Addr) (i : Nat) (f : Str) (te : TE) : TS := fun D σ H => te σ H fun y H1 => tVar i σ H1 fun x H2 => ∃ a dx fs, x = .ref a ∧ H2 a = some (.ins C dx fs) ∧ fs.length < 1000 ∧ D.nx σ (upd H2 a (.ins C dx (putF f y fs)))
theorem ps_fldC {X : Cx} {o value : Expr} {f : Str} {pos pos' : Pos} {C : Addr} {i : Nat} {te : TE} (c : Cls X.K C) (n : NoAttr X.K C f) (ho : PE X o (tVar i)) (hv : PE X value te) (hs : swapsWith value (some (.Attribute o f pos')) pos.line X.env = pure false := by rfl) :
    PS X (.Assign [.Attribute o f pos'] value pos) (tSetFld C i f te) := by
  refine ⟨fun pins s σ H D I h0 => plainObj_wpAny_Assign_Attribute (thn (hv.run pins s σ H _ I h0) fun u t ⟨y, H1, J, ry, q⟩ => thn (ho.run pins t σ H1 _ J q) fun ov t2 ⟨x, H2, J2, rx, a, dx, fs, ex, ea, l, q2⟩ => ?_) hs⟩
  subst ex ; obtain rfl : ov = Value.ref a := rx
  exact setattr_ok J2 ea c n l ry fun s3 I3 => ⟨σ, _, I3, q2⟩
def dSetFld (C : Addr) (i : Nat) (f : Str) (de : DE) : DS := fun env E => de env fun d env1 => keepE env env1 ∧ ∃ st, env1[i]? = some (some (.o (bas C st))) ∧ f = ("scale" : Str) ∧ ∃ z, d = .int z ∧ E.nx (env1.set i (some (.o (bas C { st with scale := z }))))
instance {C : Addr} {i : Nat} {f : Str} {te : TE} {de : DE} [ha : AbsE te de] : AbsS (tSetFld C i f te) (dSetFld C i f de) := ⟨fun σ Hs Fr H env D E er sf fh h kn kr kb kc => by
  refine ha.run σ Hs Fr H env _ _ er sf fh h fun v dd env1 Hs1 Fr1 H1 r1 s1 sf1 fh1 rv hc => ?_
  obtain ⟨ke, st, hw, rfl, z, rfl, hE⟩ := hc
  cases rv.int_inv
  obtain ⟨fp, rf⟩ := r1
  obtain ⟨v0, hv, p, dx, l1, l2, l3, fsV, rows, d⟩ := rf.val hw
  have e0 := d.ev
  subst e0
  have n1p : l1 ≠ p := fun z => by have := d.h1; rw [z, d.hp] at this; cases this
  have n2p : l2 ≠ p := fun z => by have := d.h2; rw [z, d.hp] at this; cases this
  have n3p : l3 ≠ p := fun z => by have := d.h3; rw [z, d.hp] at this; cases this
  have ndp : dx ≠ p := fun z => by have := d.hd; rw [z, d.hp] at this; cases this
  have kp : Kp σ env σ (env1.set i (some (.o (bas C { st with scale := z })))) := fun q w hq => by
    obtain ⟨w2, h2⟩ := ke q w hq
    refine ⟨rfl, ?_⟩
    by_cases z : i = q
    · subst z
      exact ⟨_, List.getElem?_set_self (List.getElem?_eq_some_iff.mp hw).1⟩
    · exact ⟨w2, by rw [List.getElem?_set_ne z]; exact h2⟩
  have hpf : Fr1 p = none := rf.fr i _ hw p (by rw [d.ef]; simp)
  refine ⟨_, hv, p, dx, fsV, rfl, d.hp, d.few, ?_⟩
  have oth : ∀ g : Str, g ≠ "scale" → (putF "scale" (.int z) fsV).lookup g = fsV.lookup g := fun g hg => by rw [lookup_putF, if_neg hg]
  refine kn σ _ Hs1 Fr1 _ ⟨fp, rf.own hw hv (w' := bas C { st with scale := z }) (fun a ha _ => upd_ne (fun z => ha (by rw [d.ef, z]; simp))) ⟨p, dx, l1, l2, l3, putF "scale" (.int z) fsV, rows, ?_⟩⟩ s1 sf1 (same_updF fh1 hpf) kp hE
  exact { ev := rfl, ef := d.ef, n12 := d.n12, n13 := d.n13, n23 := d.n23, hp := upd_same, hd := by rw [upd_ne ndp]; exact d.hd, few := by rw [length_putF_same d.g0]; exact d.few, g0 := by rw [lookup_putF, if_pos rfl], g1 := (oth _ (by decide)).trans d.g1, g2 := (oth _ (by decide)).trans d.g2, g3 := (oth _ (by decide)).trans d.g3,
          gn := fun g hg => by
            have hs : g ≠ "scale" := fun e => by rw [e] at hg; cases hg
            rw [oth g hs]
            exact d.gn g (flds_none hg)
          h1 := by rw [upd_ne n1p]; exact d.h1, h2 := by rw [upd_ne n2p]; exact d.h2, h3 := by rw [upd_ne n3p]; exact d.h3, hr := d.hr }⟩
end Lf
set_option Elab.async false
set_option linter.all false
set_option maxRecDepth 100000
set_option maxHeartbeats 4000000
namespace Lf
open PySem PySem.Spec PyProof.Rows L2 RZ
theorem hold_ints {h : Heap} : ∀ {us : List Value} {ns : List Int}, IntsAre us ns → ReadsAll h us (ns.map (PySem.W.Datum.toD (α := Int))) []
  | _, _, .nil => .nil
  | _, _, .cons n t r => .cons (as := []) (.int n t) (hold_ints r)
theorem maxOf_spec : ∀ (xs : List Int) (x : Int), PySem.W.maxOf x xs ∈ x :: xs ∧ ∀ y ∈ x :: xs, y ≤ PySem.W.maxOf x xs
  | [], x => by
    refine ⟨by simp [PySem.W.maxOf], fun y hy => ?_⟩
    have : y = x := by simpa using hy
    subst this
    exact Int.le_refl _
  | z :: xs, x => by
    have e : PySem.W.maxOf x (z :: xs) = PySem.W.maxOf (if x < z then z else x) xs := by
      show xs.foldl _ (if decide (x < z) = true then z else x) = _
      by_cases q : x < z <;> simp [q, PySem.W.maxOf]
    obtain ⟨h1, h2⟩ := maxOf_spec xs (if x < z then z else x)
    rw [e]
    have h0 := h2 _ (List.mem_cons_self)
    have g1 : x ≤ (if x < z then z else x) := by split <;> omega
    have g2 : z ≤ (if x < z then z else x) := by split <;> omega
    refine ⟨?_, fun y hy => ?_⟩
    · rcases List.mem_cons.mp h1 with h1 | h1
      · rw [h1]; split <;> simp
      · simp [h1]
    · rcases List.mem_cons.mp hy with rfl | hy
      · exact Int.le_trans g1 h0
      · rcases List.mem_cons.mp hy with rfl | hy
        · exact Int.le_trans g2 h0
        · exact h2 y (by simp [hy])
/-- max(xs, default=d) of ints -/
def rMaxDef (K : PySem.W.Frag) : List V → List V → Hp → VK → Prop := fun xs zs H Q => ∃ (a : Addr) (ns : List Int) (d : Int), xs = [.ref a] ∧ zs = [.int d] ∧ SqL K H a (ns.map V.int) ∧ (ns = [] → Q (.int d) H) ∧ ∀ m, m ∈ ns → (∀ y ∈ ns, y ≤ m) → Q (.int m) H
theorem cr_maxDef {X : Cx} (hc : X.calm = true) (hu : X.A.units + 1 < cLine) : CallRK X (.builtin "max") [Str.ofString "default"] (rMaxDef X.K) := by
  intro pins s σ H vs zs us ws Q I rv rz h
  obtain ⟨a, ns, d, rfl, rfl, hs, q0, q⟩ := h
  obtain rfl := Vals.ref1 rv
  obtain ⟨w1, rfl, t, rfl⟩ := vals1 rz
  obtain ⟨its, r, p, hz⟩ := I.list hs
  refine PySem.W.max_list_datum_default (α := Int) (I.ok.hd hc) p.isList (xs := ns) ⟨[], by simpa using hold_ints (Vals.ints r)⟩ (by show X.A.units + 1 + 0 < cLine; omega) (fun e h' tk k => ?_) fun y ys i v h' tk e hi hv k => ?_
  · exact ⟨.int d, H, I.kept (t' := tk) k, ⟨t, rfl⟩, q0 e⟩
  · obtain ⟨as, rr⟩ := hv
    cases rr with
    | int n t2 =>
      subst e
      have := maxOf_spec ys y
      exact ⟨.int _, H, I.kept (t' := tk) k, ⟨t2, rfl⟩, q _ this.1 this.2⟩
def tMaxDef (K : PySem.W.Frag) (te : TE) (d : Int) : TE := tCKw (rMaxDef K) (tCons te tNil) (tCons (tC (.int d)) tNil)
theorem pe_maxDef {X : Cx} {K : PySem.W.Frag} {e : Expr} {te : TE} {d : Int} (h : PE X e (tCKw (rMaxDef K) (tCons te tNil) (tCons (tC (.int d)) tNil))) : PE X e (tMaxDef K te d) := h
def dMaxDef (de : DE) (d : Int) : DE := fun env C => de env fun x env1 => ∃ ns : List Int, x = .lst (ns.map .int) ∧ (ns = [] → C (.int d) env1) ∧ ∀ m, m ∈ ns → (∀ y ∈ ns, y ≤ m) → C (.int m) env1
instance {K : PySem.W.Frag} {te : TE} {d : Int} {de : DE} [ha : AbsE te de] : AbsE (tMaxDef K te d) (dMaxDef de d) := ⟨fun σ Hs Fr H env Q C er sf fh h k => by
  refine ha.run σ Hs Fr H env _ _ er sf fh h fun v x env1 Hs1 Fr1 H1 r1 s1 sf1 fh1 rv hc => ?_
  obtain ⟨ns, rfl, h0, h1⟩ := hc
  obtain ⟨a, vs, rfl, ha', qa⟩ := rv.lst_inv
  have e := ints_of qa
  subst e
  exact ⟨a, ns, d, rfl, rfl, SqL.of ((sf1.trans fh1) _ _ ha'), fun z => k _ _ env1 Hs1 Fr1 H1 r1 s1 sf1 fh1 (.int _) (h0 z), fun m hm hy => k _ _ env1 Hs1 Fr1 H1 r1 s1 sf1 fh1 (.int _) (h1 m hm hy)⟩⟩
/-- xs.index(y) of ints -/
def tIndex (K K2 : PySem.W.Frag) (te ty : TE) : TE := tBM K "list" (rIndex K2) te (tCons ty tNil)
theorem pe_index {X : Cx} {K K2 : PySem.W.Frag} {e : Expr} {te ty : TE} (h : PE X e (tBM K "list" (rIndex K2) te (tCons ty tNil))) : PE X e (tIndex K K2 te ty) := h
def dIndex (i j : Nat) : DE := fun env C => ∃ (ns : List Int) (m : Int) (k : Nat), env[i]? = some (some (.d (.lst (ns.map .int)))) ∧ env[j]? = some (some (.d (.int m))) ∧ ns[k]? = some m ∧ (∀ k' z, k' < k → ns[k']? = some z → z ≠ m) ∧ C (.int k) env
theorem eqV_int (a b : Int) : eqV (.int a) (.int b) = decide (a = b) := by
  by_cases h : a = b
  · subst h; simp [eqV]
  · simp [eqV, h]
instance {K K2 : PySem.W.Frag} {i j : Nat} : AbsE (tIndex K K2 (tVar i) (tVar j)) (dIndex i j) := ⟨fun σ Hs Fr H env Q C er sf fh h k => by
  obtain ⟨ns, m, n, h1, h2, h3, h4, hC⟩ := h
  obtain ⟨v, hv, rv⟩ := er.dat h1
  obtain ⟨a, vs, rfl, ha', qa⟩ := rv.lst_inv
  have e := ints_of qa
  subst e
  obtain ⟨w, hw, rw'⟩ := er.dat h2
  cases rw'.int_inv
  have hl := (sf.trans fh) _ _ ha'
  refine ⟨_, hv, .inl ⟨rfl, _, SqL.of hl⟩, _, hw, a, ns.map V.int, .int m, n, .int m, rfl, rfl, SqL.of hl, rfl, ?_, by rw [List.getElem?_map, h3]; rfl, by rw [eqV_int]; simp, fun k' z' hk hz => ?_, k _ _ env Hs Fr H er (Stp.refl _ _) sf fh (.int _) hC⟩
  · rw [List.all_map]; exact List.all_eq_true.mpr fun x _ => rfl
  · rw [List.getElem?_map] at hz
    cases q : ns[k']? with
    | none => rw [q] at hz; cases hz
    | some z =>
      rw [q] at hz
      cases hz
      rw [eqV_int]
      exact decide_eq_false (h4 k' z hk q)⟩
end Lf
set_option Elab.async false
set_option linter.all false
set_option maxRecDepth 100000
set_option maxHeartbeats 4000000
namespace Lf
open PySem PySem.Spec PyProof.Rows L2 RZ
/-! methods by name -/
def Mt (P : Program) (w : World) (K : PySem.W.Frag) (mg : Str → Option Value) (base : Heap) (k : Nat) (C : Addr) (m : Str) (ps : List Str) (sp : Sp) : Prop := ∃ fd, FnOk P w K mg base CX0 k (He.ma K C m) fd ps sp ∧ Binds K fd ps []
section
variable {X : Cx} {k : Nat} {C : Addr} {m : Str} {ps : List Str} {sp : Sp} {o e : Expr} {es : List Expr} {ta : TE} {t : TA} {apos pos : Pos} {pl : Sem Bool}
theorem pe_m (c : Cls X.K C) (hm : Meth X.K C m (He.ma X.K C m)) (F : Mt X.prog X.w X.K X.mg X.base k C m ps sp) (hr : Room k X.A) (he : PE X o ta) (ha : PA X (e :: es) t)
    (hst : starEach (e :: es) X.env = (false, eval e X.env) :: starEach es X.env := by rfl) (hpl : (backTo pos (starEach es X.env)).any (·.1) = false := by rfl)
    (ht : eval (.Call (.Attribute o m apos) (e :: es) [] pos) X.env = (do
      let ov ← eval o X.env ; standAt apos.atName
      let (f, first) ← holding [ov] (getMethod ov m pl)
      callWith pos f first (backTo pos (starEach (e :: es) X.env)) (backToKw pos (keywordEach [] X.env))) := by rfl) :
    PE X (.Call (.Attribute o m apos) (e :: es) [] pos) (tMeth C m sp [] E0 ta t) := by
  obtain ⟨fd, G, b⟩ := F
  exact pe_meth (pl := pl) he c hm G hr b .nil pass0 ha hst hpl ht
theorem pe_m0 (c : Cls X.K C) (hm : Meth X.K C m (He.ma X.K C m)) (F : Mt X.prog X.w X.K X.mg X.base k C m ps sp) (hr : Room k X.A) (he : PE X o ta)
    (ht : eval (.Call (.Attribute o m apos) [] [] pos) X.env = (do
      let ov ← eval o X.env ; standAt apos.atName
      let (f, first) ← holding [ov] (getMethod ov m pl)
      callWith pos f first (backTo pos (starEach [] X.env)) (backToKw pos (keywordEach [] X.env))) := by rfl) :
    PE X (.Call (.Attribute o m apos) [] [] pos) (tMeth C m sp [] E0 ta tNil) := by
  obtain ⟨fd, G, b⟩ := F
  exact pe_meth0 (pl := pl) he c hm G hr b .nil pass0 ht
end
/-! a method that changes it -/
def tMethO (C : Addr) (m : Str) (sp : Sp) (i : Nat) (t : TA) : TE := tMeth C m sp [] E0 (tVar i) t
theorem pe_methO {X : Cx} {e : Expr} {C : Addr} {m : Str} {sp : Sp} {i : Nat} {t : TA} (h : PE X e (tMeth C m sp [] E0 (tVar i) t)) : PE X e (tMethO C m sp i t) := h
def dMethO (C : Addr) (m : Str) (n : Nat) (ow : OW) (i : Nat) (da : DA) : DE := fun env K => (∃ st, env[i]? = some (some (.o (bas C st))) ∧ st.flds.lookup m = none) ∧ dCallO n ow i da env K
instance {C : Addr} {m : Str} {n : Nat} {ow : OW} {i : Nat} {t : TA} {da : DA} [ha : AbsA t da] : AbsE (tMethO C m (OSp n ow) i t) (dMethO C m n ow i da) := ⟨fun σ Hs Fr H env Q K er sf fh h k => by
  obtain ⟨⟨st, hw, hl⟩, h⟩ := h
  have hc : AbsE (tCallO (OSp n ow) i E0 t) (dCallO n ow i da) := inferInstance
  obtain ⟨v0, hv, rest⟩ := hc.run σ Hs Fr H env Q K er sf fh h k
  obtain ⟨fp, r⟩ := er
  obtain ⟨v1, hv1, at0⟩ := r.val hw
  rw [hv] at hv1
  cases hv1
  obtain ⟨p, dx, fsV, h1, h2, h3, h4⟩ := asRec_bas Hs H v0 _ (sf.trans fh) at0
  subst h1
  exact ⟨_, hv, p, dx, fsV, rfl, h2, h3 m hl, rest⟩⟩
/-! an object of one's own that is read alone from here on -/
def both (Hs H : Hp) (fp : List Addr) : Hp := fun a => match Hs a with
  | some o => some o
  | none => if a ∈ fp then H a else none
theorem both_same {Hs H : Hp} {fp : List Addr} : Same Hs (both Hs H fp) := fun a o h => by unfold both; rw [h]
theorem both_heap {Hs H : Hp} {fp : List Addr} (s : Same Hs H) : Same (both Hs H fp) H := fun a o h => by
  unfold both at h
  cases q : Hs a with
  | some u => rw [q] at h; cases h; exact s a _ q
  | none =>
    rw [q] at h
    by_cases z : a ∈ fp
    · simp only [z, if_true] at h; exact h
    · simp only [z, if_false] at h; cases h
theorem both_in {Hs H : Hp} {fp : List Addr} {a : Addr} (h : a ∈ fp) (n : Hs a = none) : both Hs H fp a = H a := by unfold both; rw [n]; simp only [h, if_true]
theorem both_out {Hs H : Hp} {fp : List Addr} {a : Addr} (h : a ∉ fp) : both Hs H fp a = Hs a := by
  unfold both
  cases Hs a with
  | some o => rfl
  | none => simp only [h, if_false]
theorem both_both {Hs Fr H : Hp} {fp : List Addr} (s : Same Hs Fr) (hf : ∀ a ∈ fp, Fr a = none) : Same (both Hs H fp) (both Fr H fp) := fun a o h => by
  by_cases z : a ∈ fp
  · rw [both_in z (none_of s (hf a z))] at h
    rw [both_in z (hf a z)]; exact h
  · rw [both_out z] at h ⊢
    exact s a o h
def tFrzB (C : Addr) (i : Nat) (t : TS) : TS := t
theorem pss_frzB {X : Cx} {b : List Stmt} {t : TS} (C : Addr) (i : Nat) (h : PSs X b t) : PSs X b (tFrzB C i t) := h
def dFrzB (C : Addr) (i : Nat) (a : DS) : DS := fun env E => ∃ st, env[i]? = some (some (.o (bas C st))) ∧ a (env.set i (some (.o (recO C st.flds)))) E
theorem EnvF.frzB {Hs Fr H : Hp} {σ : L2.St} {env : Env} {fp : Nat → List Addr} (r : EnvF Hs Fr H σ env fp) (sf : Same Hs Fr) (fh : Same Fr H) {C : Addr} {st : BSt} {i : Nat} (hw : env[i]? = some (some (.o (bas C st)))) :
    EnvF (both Hs H (fp i)) (both Fr H (fp i)) H σ (env.set i (some (.o (recO C st.flds)))) (fun j => if j = i then [] else fp j) ∧ Stp Hs Fr (both Hs H (fp i)) (both Fr H (fp i)) ∧ Same (both Hs H (fp i)) (both Fr H (fp i)) ∧ Same (both Fr H (fp i)) H := by
  obtain ⟨v0, hv, p, dx, l1, l2, l3, fsV, rows, d⟩ := r.val hw
  have hi : i < env.length := (List.getElem?_eq_some_iff.mp hw).1
  have hf : ∀ a ∈ fp i, Fr a = none := r.fr i _ hw
  have hs : ∀ a ∈ fp i, Hs a = none := fun a ha => none_of sf (hf a ha)
  have back : ∀ (j : Nat) e, (env.set i (some (.o (recO C st.flds))))[j]? = some (some e) → (j = i ∧ e = .o (recO C st.flds)) ∨ (j ≠ i ∧ env[j]? = some (some e)) := fun j e he => by
    by_cases z : j = i
    · subst z
      rw [List.getElem?_set_self hi] at he
      cases he
      exact .inl ⟨rfl, rfl⟩
    · rw [List.getElem?_set_ne (Ne.symm z)] at he
      exact .inr ⟨z, he⟩
  have e0 := d.ev
  subst e0
  have at_ : ∀ a o, a ∈ fp i → H a = some o → both Hs H (fp i) a = some o := fun a o ha h => by rw [both_in ha (hs a ha)]; exact h
  have rc0 : RecAt (both Hs H (fp i)) C (.ref p) st.flds := by
    refine ⟨p, dx, fsV, rfl, at_ _ _ (by rw [d.ef]; simp) d.hp, d.gn, fun f x hx => ?_⟩
    rcases flds_get st f x hx with ⟨rfl, rfl⟩ | ⟨rfl, rfl⟩ | ⟨rfl, rfl⟩ | ⟨rfl, rfl⟩
    · exact ⟨_, d.g0, .int _⟩
    · exact ⟨_, d.g1, rp_ints (at_ _ _ (by rw [d.ef]; simp) d.h1)⟩
    · exact ⟨_, d.g2, rp_mems (at_ _ _ (by rw [d.ef]; simp) d.h2)⟩
    · exact ⟨_, d.g3, .lstA (at_ _ _ (by rw [d.ef]; simp) d.h3) (d.hr.mono both_same)⟩
  refine ⟨⟨by simpa using r.len, fun j e he => ?_, fun j e he a ha => ?_, fun j q e e' hjq h1 h2 a ha => ?_⟩, ⟨both_same, both_same, fun a h1 h2 => ?_⟩, both_both sf hf, both_heap fh⟩
  · rcases back j e he with ⟨rfl, rfl⟩ | ⟨z, he'⟩
    · exact ⟨_, hv, by simp, rc0⟩
    · obtain ⟨u, h1, h2⟩ := r.at_ j e he'
      exact ⟨u, h1, by simp only [if_neg z]; exact En.mono h2 both_same fun _ _ => rfl⟩
  · rcases back j e he with ⟨rfl, rfl⟩ | ⟨z, he'⟩
    · simp at ha
    · rw [if_neg z] at ha
      rw [both_out (r.dis j i e _ z he' hw a ha)]
      exact r.fr j e he' a ha
  · rcases back j e h1 with ⟨rfl, rfl⟩ | ⟨z, he'⟩
    · simp at ha
    · rw [if_neg z] at ha
      rcases back q e' h2 with ⟨rfl, rfl⟩ | ⟨z2, he2⟩
      · simp
      · rw [if_neg z2]
        exact r.dis j q e e' hjq he' he2 a ha
  · have : a ∉ fp i := fun z => h1 (hf a z)
    rw [both_out this]; exact h2
instance {C : Addr} {i : Nat} {t : TS} {a : DS} [ht : AbsS t a] : AbsS (tFrzB C i t) (dFrzB C i a) := ⟨fun σ Hs Fr H env D E er sf fh h kn kr kb kc => by
  obtain ⟨st, hw, h⟩ := h
  obtain ⟨fp, r⟩ := er
  obtain ⟨r1, s1, sf1, fh1⟩ := r.frzB sf fh hw
  have p1 : Kp σ env σ (env.set i (some (.o (recO C st.flds)))) := fun q w hq => by
    refine ⟨rfl, ?_⟩
    by_cases z : i = q
    · subst z
      exact ⟨_, List.getElem?_set_self (List.getElem?_eq_some_iff.mp hw).1⟩
    · exact ⟨w, by rw [List.getElem?_set_ne z]; exact hq⟩
  refine ht.run σ _ _ H _ D E ⟨_, r1⟩ sf1 fh1 h ?_ ?_ ?_ ?_
  · exact fun σ2 env2 Hs2 Fr2 H2 r2 s2 sf2 fh2 p2 h2 => kn σ2 env2 Hs2 Fr2 H2 r2 (s1.trans s2) sf2 fh2 (p1.trans p2) h2
  · exact fun v d σ2 env2 Hs2 Fr2 H2 r2 s2 sf2 fh2 p2 rv h2 => kr v d σ2 env2 Hs2 Fr2 H2 r2 (s1.trans s2) sf2 fh2 (p1.trans p2) rv h2
  · exact fun σ2 env2 Hs2 Fr2 H2 r2 s2 sf2 fh2 p2 h2 => kb σ2 env2 Hs2 Fr2 H2 r2 (s1.trans s2) sf2 fh2 (p1.trans p2) h2
  · exact fun σ2 env2 Hs2 Fr2 H2 r2 s2 sf2 fh2 p2 h2 => kc σ2 env2 Hs2 Fr2 H2 r2 (s1.trans s2) sf2 fh2 (p1.trans p2) h2⟩
/-! [x] * n, as a new list of one's own -/
def dNewRep (x : D) (de : DE) : DA := fun env Q => de env fun y env1 => ∃ n : Nat, y = .int n ∧ n ≤ 1000 ∧ Q (List.replicate n x) env1
def tRepO (K : PySem.W.Frag) (c : V) (te : TE) : TE := tOp (rbMul K) (tLst (tCons (tC c) tNil)) te
theorem pe_repO {X : Cx} {K : PySem.W.Frag} {e : Expr} {c : V} {te : TE} (h : PE X e (tOp (rbMul K) (tLst (tCons (tC c) tNil)) te)) : PE X e (tRepO K c te) := h
class CV (c : V) (x : outParam D) : Prop where
  rp : ∀ H, Rp H c x
instance {i : Int} : CV (.int i) (.int i) := ⟨fun _ => .int i⟩
instance : CV .non .non := ⟨fun _ => .non⟩
theorem flat_rep {α : Type} (x : α) (n : Nat) : (List.replicate n [x]).flatten = List.replicate n x := List.flatten_replicate_singleton
theorem RpA.const {H : Hp} {c : V} {x : D} (h : Rp H c x) (n : Nat) : RpA H (List.replicate n c) (List.replicate n x) := ⟨by simp, fun i v d h1 h2 => by
  rw [List.getElem?_replicate] at h1 h2
  split at h1
  · next q => rw [if_pos q] at h2; cases h1; cases h2; exact h
  · cases h1⟩
instance {K : PySem.W.Frag} {c : V} {x : D} {te : TE} {de : DE} [hc : CV c x] [he : AbsE te de] : AbsN (tRepO K c te) (dNewRep x de) := ⟨fun σ Hs Fr H env Q C er sf fh h k => by
  refine ⟨by show 1 ≤ sizeLine; decide, fun p hp => ?_⟩
  have g := Gr.new sf fh hp (.lst [c])
  refine he.run σ _ _ _ env _ _ (er.gr g) g.sf g.fh h fun y d env1 Hs1 Fr1 H1 r1 s1 sf1 fh1 ry h1 => ?_
  obtain ⟨n, rfl, hn, h1⟩ := h1
  cases ry.int_inv
  have hp1 : H1 p = some (.lst [c]) := fh1 _ _ (s1.f _ _ upd_same)
  refine .inr (.inr (.inr ⟨p, n, [c], rfl, rfl, hp1, by omega, by omega, szl (by simp; omega), fun q hq => ?_⟩))
  have e : ((n : Nat) : Int).toNat = n := by omega
  rw [e, flat_rep]
  have fp1 : Fr1 q = none := none_of fh1 hq
  obtain ⟨fpf, rf⟩ := r1
  exact k q (List.replicate n c) (List.replicate n x) env1 Hs1 Fr1 (upd H1 q (.lst (List.replicate n c))) (upd Fr1 q (.lst (List.replicate n c))) ⟨fpf, rf.frz (Same.refl _) (rf.not (.inr hq)) (fun a ha => upd_ne ha) (fun a ha h => by rw [upd_ne ha]; exact h)⟩ (g.st.trans s1) sf1 (same_upd (Same.refl _) fp1) (same_upd2 fh1) (fun a ha => upd_ne ha) fp1 upd_same (RpA.const (hc.rp _) n) h1⟩
theorem ea_rep {env : Env} {de : DE} {x : D} {n : Nat} (h : Ev de env (.int n)) (l : n ≤ 1000) : EvA (dNewRep x de) env (List.replicate n x) := fun C k => h _ fun _ e => ⟨n, e, l, k _ rfl⟩
/-! xs[k] = e, xs a list of one's own -/
def tSetO (i j : Nat) (te : TE) : TS := tAsg te (gSub (tVar i) (tVar j) rSetL)
theorem ps_setO {X : Cx} {st : Stmt} {i j : Nat} {te : TE} (h : PS X st (tAsg te (gSub (tVar i) (tVar j) rSetL))) : PS X st (tSetO i j te) := h
def dSetO (i j : Nat) (de : DE) : DS := fun env E => de env fun d env1 => keepE env env1 ∧ ∃ (xs : List D) (k : Nat), env1[i]? = some (some (.l xs)) ∧ env1[j]? = some (some (.d (.int k))) ∧ k < xs.length ∧ E.nx (env1.set i (some (.l (xs.set k d))))
instance {i j : Nat} {te : TE} {de : DE} [ha : AbsE te de] : AbsS (tSetO i j te) (dSetO i j de) := ⟨fun σ Hs Fr H env D E er sf fh h kn kr kb kc => by
  refine ha.run σ Hs Fr H env _ _ er sf fh h fun v dd env1 Hs1 Fr1 H1 r1 s1 sf1 fh1 rv hc => ?_
  obtain ⟨ke, xs, n, hx, hj, hk, hE⟩ := hc
  obtain ⟨y, hy, ry⟩ := r1.dat hj
  cases ry.int_inv
  obtain ⟨p, vs, hp, hl, ra, hf⟩ := r1.own hx
  obtain ⟨fpf, rf⟩ := r1
  refine ⟨_, hp, _, hy, p, vs, _, n, rfl, rfl, hl, by rw [ra.1]; exact ixN_nat hk, ?_⟩
  exact kn σ _ Hs1 Fr1 _ ⟨fpf, rf.updL hx hp (ra.set n rv)⟩ s1 sf1 (same_updF fh1 hf) ((Kp.ofE ke).trans (.setL _ hx)) hE⟩
theorem st_setO {env : Env} {a : DE} {E : DEnds} {i j k : Nat} {xs : List D} {d : D} (h : Ev a env d) (hx : env[i]? = some (some (.l xs))) (hj : env[j]? = some (some (.d (.int (k : Nat))))) (hk : k < xs.length) (q : E.nx (env.set i (some (.l (xs.set k d))))) : dSetO i j a env E := h _ fun _ e => by
  subst e; exact ⟨keepE_refl, xs, k, hx, hj, hk, q⟩
theorem ls_body3 {C : Addr} {n : Nat} {vw : VW} {N : List Str} {t t2 : TS} {dS : DS} {i : Nat} {vs : List V} {H : Hp} {Q : VK} {E : XK} (h : VSp C n vw vs H Q E) (ha : AbsS (tSeq t t2) dS)
    (body : ∀ fs as K, as.length + 1 = n → vw fs as K → dS (some (.o (recO C fs)) :: env0 (N.length - n) as) { nx := fun env' => ∃ ns : List Int, env'[i]? = some (some (.l (ns.map .int))) ∧ K (.lst (ns.map .int)), rt := fun _ _ => False }) :
    tSeq t (tSeq t2 (tRet (tVar i))) { nx := fun _ H' => Q .non H', rt := Q } (start N vs) H := ls_body2 h ha body
/-- a def that returns what a method of its object tells -/
theorem vs_pass {C : Addr} {n n2 : Nat} {vw vw2 : VW} {m : Str} {N : List Str} {t : TA} {dA : DA} {vs : List V} {H : Hp} {Q : VK} {E : XK} (h : VSp C n vw vs H Q E) (ha : AbsA t dA)
    (body : ∀ fs as K, as.length + 1 = n → vw fs as K → fs.lookup m = none ∧ dA (some (.o (recO C fs)) :: env0 (N.length - n) as) fun ds env1 => env1[0]? = some (some (.o (recO C fs))) ∧ ds.length + 1 = n2 ∧ vw2 fs ds K) :
    tRet (tMethV C m (VSp C n2 vw2) 0 t) { nx := fun _ H' => Q .non H', rt := Q } (start N vs) H := by
  obtain ⟨hl, v0, vs', fs, as, K, rfl, r, ra, hw, hK⟩ := h
  have e : as.length + 1 = n := by rw [← ra.1]; simpa using hl
  rw [start_cons hl]
  obtain ⟨hm, hb⟩ := body fs as K e hw
  obtain ⟨p, dx, fsV, h1, h2, h3, h4⟩ := id r
  subst h1
  refine ⟨.ref p, rfl, p, dx, fsV, rfl, h2, h3 m hm, ?_⟩
  refine ha.run _ H H H _ _ _ ⟨_, rec_env _ r ra⟩ (Same.refl _) (Same.refl _) hb fun ws ds env1 Hs1 Fr1 H1 r1 s1 sf1 fh1 ra1 hc => ?_
  obtain ⟨_, hn, hv⟩ := hc
  have s01 : Same H H1 := s1.f.trans fh1
  refine ⟨by simp [ra1.1]; exact hn, .ref p, ws, fs, ds, K, by simp, r.mono s01, ra1.mono (sf1.trans fh1), hv, fun v d H' s res c => hK v d H' (s01.trans s) ?_ c⟩
  rcases res with ⟨hi, rv⟩ | ⟨q, ns, rfl, hq, rfl, hq'⟩
  · exact .inl ⟨hi, rv⟩
  · exact .inr ⟨q, ns, rfl, none_of s01 hq, rfl, hq'⟩
end Lf
set_option Elab.async false
set_option linter.all false
set_option maxRecDepth 100000
set_option maxHeartbeats 4000000
namespace Lf
open PySem PySem.Spec PyProof.Rows L2 RZ StX
def dStar (de : DE) (da : DA) : DA := fun env C => de env fun x env1 => ∃ xs, x.items? = some xs ∧ da env1 fun ys env2 => C (xs ++ ys) env2
instance {K : PySem.W.Frag} {te : TE} {ta : TA} {de : DE} {da : DA} [he : AbsE te de] [ha : AbsA ta da] : AbsA (tStar K te ta) (dStar de da) := ⟨fun σ Hs Fr H env Q C er sf fh h k => by
  refine he.run σ Hs Fr H env _ _ er sf fh h fun x a env1 Hs1 Fr1 H1 r1 s1 sf1 fh1 p1 h1 => ?_
  obtain ⟨xs, e, h1⟩ := h1
  have go : ∀ (vs : List V), RpA Hs1 vs xs → ta σ H1 fun ws H2 => Q (vs ++ ws) H2 := fun vs q =>
    ha.run σ Hs1 Fr1 H1 env1 _ _ r1 sf1 fh1 h1 fun ws ys env2 Hs2 Fr2 H2 r2 s2 sf2 fh2 p2 h2 => k _ _ env2 Hs2 Fr2 H2 r2 (s1.trans s2) sf2 fh2 ((q.mono s2.s).append p2) h2
  cases a with
  | lst ys =>
    cases e
    obtain ⟨p, vs, rfl, ha', q⟩ := p1.lst_inv
    exact ⟨p, vs, rfl, .inr (SqL.of ((sf1.trans fh1) _ _ ha')), go vs q⟩
  | tup ys =>
    cases e
    obtain ⟨p, vs, rfl, ha', q⟩ := p1.tup_inv
    exact ⟨p, vs, rfl, .inl (SqT.of ((sf1.trans fh1) _ _ ha')), go vs q⟩
  | _ => cases e⟩
theorem ea_star {env : Env} {a : DE} {da : DA} {x : D} {xs ds : List D} (h : Ev a env x) (e : x.items? = some xs) (h2 : EvA da env ds) : EvA (dStar a da) env (xs ++ ds) := fun C k => h _ fun _ e1 => by
  subst e1
  exact ⟨xs, e, h2 _ fun _ e2 => by subst e2; exact k _ rfl⟩
end Lf
set_option Elab.async false
set_option linter.all false
set_option maxRecDepth 100000
set_option maxHeartbeats 4000000
/-! A new basis -/
namespace Lf
open PySem PySem.Spec PyProof.Rows L2 RZ
/-- the members of a new basis -/
def BSt.new (goal : List Int) : BSt where
  scale := 1
  levels := goal.map fun z => if z < 0 then -z else z
  members := List.replicate goal.length none
  inverse := (List.range goal.length).map fun k => (List.range goal.length).map fun i => if i = k then (if goal.getD k 0 < 0 then -1 else 1) else 0
def zrow (n : Nat) : List V := List.replicate n (.int 0)
/-- row k of the inverse when it is made -/
def irow (goal : List Int) (k : Nat) : List V := (zrow goal.length).set k (.int (if goal.getD k 0 < 0 then -1 else 1))
structure Made (H H' : Hp) (C x dx : Addr) (goal : List Int) (l1 l2 l3 : Addr) (rows : List Addr) : Prop where
  keep : ∀ a o, a ≠ x → H a = some o → H' a = some o
  ob : H' x = some (.ins C dx [(("scale" : Str), .int 1), (("levels" : Str), .ref l1), (("members" : Str), .ref l2), (("inverse" : Str), .ref l3)])
  f1 : H l1 = none
  f2 : H l2 = none
  f3 : H l3 = none
  n12 : l1 ≠ l2
  n13 : l1 ≠ l3
  n23 : l2 ≠ l3
  h1 : H' l1 = some (.lst ((BSt.new goal).levels.map V.int))
  h2 : H' l2 = some (.lst ((BSt.new goal).members.map memV))
  h3 : H' l3 = some (.lst (rows.map V.ref))
  len : rows.length = goal.length
  rw_ : ∀ (k : Nat) r, rows[k]? = some r → H r = none ∧ r ≠ l1 ∧ r ≠ l2 ∧ r ≠ l3 ∧ H' r = some (.lst (irow goal k))
def initSp (C : Addr) : Sp := fun vs H Q _ => ∃ (x dx g : Addr) (goal : List Int), vs = [.ref x, .ref g] ∧ H x = some (.ins C dx []) ∧ H g = some (.tup (goal.map V.int)) ∧ goal.length ≤ 60 ∧
  ∀ H' l1 l2 l3 rows, Made H H' C x dx goal l1 l2 l3 rows → Q .non H'
abbrev rIxQ (K : PySem.W.Frag) : R2 := fun x y H Q => rIxL K x y H Q ∨ rIxT K x y H Q
def tInit (K : PySem.W.Frag) (C : Addr) : TS :=
  tSeq (tAsg (tCB (rLenQ K) (tCons (tVar 1) tNil)) (gName 2))
  (tSeq (tSetFld C 0 "scale" (tC (.int 1)))
  (tSeq (tSetFld C 0 "levels" (tLc (iSeq K (tVar 1)) (gName 4) tYes (tCB rAbs (tCons (tVar 4) tNil)) [4]))
  (tSeq (tSetFld C 0 "members" (tOp (rbMul K) (tLst (tCons (tC .non) tNil)) (tVar 2)))
  (tSeq (tSetFld C 0 "inverse" (tLc (iRng1 (tCons (tVar 2) tNil)) (gName 5) tYes (tOp (rbMul K) (tLst (tCons (tC (.int 0)) tNil)) (tVar 2)) [5]))
   (tFor (iRng1 (tCons (tVar 2) tNil)) (gName 3)
    (tAsg (tIf (tTest (tOp (rI0 fun i j => .bl (decide (i < j))) (tOp (rIxQ K) (tVar 1) (tVar 3)) (tC (.int 0)))) (tUn (rU fun i => .int (-i)) (tC (.int 1))) (tC (.int 1)))
      (gSub (tOp (rIxQ K) (tFldC C (tVar 0) "inverse") (tVar 3)) (tVar 3) rSetL)))))))
theorem putF_new {f : Str} {v : V} : ∀ {fs : List (Str × V)}, fs.lookup f = none → putF f v fs = fs ++ [(f, v)]
  | [], _ => rfl
  | (k, x) :: r, h => by
    by_cases e : k = f
    · subst e; simp [List.lookup] at h
    · have e2 : (f == k) = false := by simpa using fun z => e z.symm
      have h2 : r.lookup f = none := by rw [List.lookup_cons, e2] at h; exact h
      simp only [putF, e, if_false, putF_new h2, List.cons_append]
theorem init_pure {K : PySem.W.Frag} {C : Addr} {vs : List V} {H : Hp} {Q : VK} {E : XK} (h : initSp C vs H Q E) :
    tInit K C { nx := fun _ H' => Q .non H', rt := Q } (start ["self", "goal", "many", "k", "number", "_"] vs) H := by
  obtain ⟨x, dx, g, goal, rfl, hx, hg, n60, hQ⟩ := h
  have ngx : g ≠ x := fun z => by rw [z, hx] at hg; cases hg
  have lg : (goal.map V.int).length = goal.length := List.length_map ..
  -- many
  refine ⟨_, rfl, g, goal.map V.int, rfl, .inr (SqT.of hg), ?_⟩
  -- scale
  refine ⟨_, rfl, x, dx, [], rfl, hx, by decide, ?_⟩
  have hg1 : upd H x (.ins C dx (putF "scale" (.int 1) [])) g = some (.tup (goal.map V.int)) := by rw [upd_ne ngx]; exact hg
  have hx1 : upd H x (.ins C dx (putF "scale" (.int 1) [])) x = some (.ins C dx [(("scale" : Str), .int 1)]) := upd_same
  have k1 : ∀ a o, a ≠ x → H a = some o → upd H x (.ins C dx (putF "scale" (.int 1) [])) a = some o := fun a o ha h => by rw [upd_ne ha]; exact h
  have z1 : ∀ a, upd H x (.ins C dx (putF "scale" (.int 1) [])) a = none → H a = none := fun a h => by
    by_cases q : a = x
    · subst q; rw [upd_same] at h; cases h
    · rw [upd_ne q] at h; exact h
  generalize upd H x (.ins C dx (putF "scale" (.int 1) [])) = H1 at hg1 hx1 k1 z1 ⊢
  -- levels
  refine ⟨_, rfl, .inr ⟨g, rfl, ⟨_, SqT.of hg1⟩, fun l1 hl1 => ?_⟩⟩
  refine lc_tup (xs := goal.map V.int) (fun i H' => (∀ a o, H1 a = some o → H' a = some o) ∧ H' l1 = some (.lst ((goal.take i).map fun z => V.int (if z < 0 then -z else z)))) ⟨fun a o h => ?_, ?_⟩ (fun i H' _ h => SqT.of (h.1 _ _ hg1)) (fun i y H' hy h => ⟨rfl, ?_⟩) fun H2 h2 => ?_
  · rw [upd_ne (fun z => by rw [z, hl1] at h; cases h)]; exact h
  · rw [upd_same]; rfl
  · rw [List.getElem?_map] at hy
    cases q : goal[i]? with
    | none => rw [q] at hy; cases hy
    | some z =>
      rw [q] at hy; cases hy
      have hi := (List.getElem?_eq_some_iff.mp q).1
      refine ⟨_, rfl, z, rfl, _, h.2, ?_, fun a o ha => ?_, ?_⟩
      · exact szlt (by rw [List.length_map, List.length_take]; omega)
      · rw [upd_ne (fun e => by rw [e, hl1] at ha; cases ha)]; exact h.1 a o ha
      · rw [upd_same, take_next q, List.map_append]; rfl
  obtain ⟨k2, h2⟩ := h2
  rw [lg, List.take_length] at h2
  have nl1x : l1 ≠ x := fun z => by rw [z, hx1] at hl1; cases hl1
  have f1 : H l1 = none := z1 _ hl1
  refine ⟨_, rfl, x, dx, _, rfl, k2 _ _ hx1, by show 1 < 1000; decide, ?_⟩
  have hx2 : upd H2 x (.ins C dx (putF "levels" (.ref l1) [(("scale" : Str), .int 1)])) x = some (.ins C dx [(("scale" : Str), .int 1), (("levels" : Str), .ref l1)]) := upd_same
  have hl2 : upd H2 x (.ins C dx (putF "levels" (.ref l1) [(("scale" : Str), .int 1)])) l1 = some (.lst (goal.map fun z => V.int (if z < 0 then -z else z))) := by rw [upd_ne nl1x]; exact h2
  have k3 : ∀ a o, a ≠ x → H a = some o → upd H2 x (.ins C dx (putF "levels" (.ref l1) [(("scale" : Str), .int 1)])) a = some o := fun a o ha h => by rw [upd_ne ha]; exact k2 _ _ (k1 a o ha h)
  generalize upd H2 x (.ins C dx (putF "levels" (.ref l1) [(("scale" : Str), .int 1)])) = H3 at hx2 hl2 k3 ⊢
  have z3 : ∀ a, H3 a = none → H a = none := fun a h => by
    cases q : H a with
    | none => rfl
    | some o =>
      by_cases e : a = x
      · subst e; rw [hx2] at h; cases h
      · rw [k3 a o e q] at h; cases h
  -- members
  refine ⟨by show 1 ≤ sizeLine; decide, fun p hp => ?_⟩
  refine ⟨_, rfl, ?_⟩
  refine .inr (.inr (.inr ⟨p, _, [.non], rfl, rfl, upd_same, by omega, by omega, szl (by simp; omega), fun l2 hl2' => ?_⟩))
  have nl2p : l2 ≠ p := fun z => by rw [z, upd_same] at hl2'; cases hl2'
  have hl3 : H3 l2 = none := by rw [upd_ne nl2p] at hl2'; exact hl2'
  have n12 : l1 ≠ l2 := fun z => by rw [← z, hl2] at hl3; cases hl3
  have nl2x : l2 ≠ x := fun z => by rw [z, hx2] at hl3; cases hl3
  have e2 : ((goal.map V.int).length : Int).toNat = goal.length := by rw [lg]; omega
  rw [e2, flat_rep]
  have hx3 : upd (upd H3 p (.lst [.non])) l2 (.lst (List.replicate goal.length V.non)) x = some (.ins C dx [(("scale" : Str), .int 1), (("levels" : Str), .ref l1)]) := by
    rw [upd_ne (Ne.symm nl2x), upd_ne (fun z => by rw [← z, hx2] at hp; cases hp)]; exact hx2
  refine ⟨_, rfl, x, dx, _, rfl, hx3, by show 2 < 1000; decide, ?_⟩
  have hx4 : upd (upd (upd H3 p (.lst [.non])) l2 (.lst (List.replicate goal.length V.non))) x (.ins C dx (putF "members" (.ref l2) [(("scale" : Str), .int 1), (("levels" : Str), .ref l1)])) x = some (.ins C dx [(("scale" : Str), .int 1), (("levels" : Str), .ref l1), (("members" : Str), .ref l2)]) := upd_same
  have hm4 : upd (upd (upd H3 p (.lst [.non])) l2 (.lst (List.replicate goal.length V.non))) x (.ins C dx (putF "members" (.ref l2) [(("scale" : Str), .int 1), (("levels" : Str), .ref l1)])) l2 = some (.lst (List.replicate goal.length V.non)) := by rw [upd_ne nl2x, upd_same]
  have k4 : ∀ a o, a ≠ x → H3 a = some o → upd (upd (upd H3 p (.lst [.non])) l2 (.lst (List.replicate goal.length V.non))) x (.ins C dx (putF "members" (.ref l2) [(("scale" : Str), .int 1), (("levels" : Str), .ref l1)])) a = some o := fun a o ha h => by
    rw [upd_ne ha, upd_ne (fun z => by rw [z, hl3] at h; cases h), upd_ne (fun z => by rw [z, hp] at h; cases h)]; exact h
  generalize upd (upd (upd H3 p (.lst [.non])) l2 (.lst (List.replicate goal.length V.non))) x (.ins C dx (putF "members" (.ref l2) [(("scale" : Str), .int 1), (("levels" : Str), .ref l1)])) = H4 at hx4 hm4 k4 ⊢
  have hl4 : H4 l1 = some (.lst (goal.map fun z => V.int (if z < 0 then -z else z))) := k4 _ _ nl1x hl2
  have k5 : ∀ a o, a ≠ x → H a = some o → H4 a = some o := fun a o ha h => k4 _ _ ha (k3 _ _ ha h)
  have z4 : ∀ a, H4 a = none → H a = none := fun a h => by
    cases q : H a with
    | none => rfl
    | some o =>
      by_cases e : a = x
      · subst e; rw [hx4] at h; cases h
      · rw [k5 a o e q] at h; cases h
  -- inverse
  refine ⟨_, rfl, ((goal.map V.int).length : Int), rfl, by omega, by omega, fun l3 hl3' => ?_⟩
  rw [e2]
  refine lc_range (lo := 0) (n := goal.length) (fun i H' => ∃ rows : List Addr, rows.length = i ∧ (∀ a o, H4 a = some o → H' a = some o) ∧ H' l3 = some (.lst (rows.map V.ref)) ∧ rows.Nodup ∧ ∀ r ∈ rows, H4 r = none ∧ r ≠ l3 ∧ H' r = some (.lst (zrow goal.length)))
    ⟨[], rfl, fun a o h => ?_, upd_same, List.nodup_nil, fun r hr => by simp at hr⟩ (fun i H' hi h => ⟨rfl, ?_⟩) fun H5 h5 => ?_
  · rw [upd_ne (fun z => by rw [z, hl3'] at h; cases h)]; exact h
  · obtain ⟨rows, hl, hk, h3, nd, hr⟩ := h
    refine ⟨by show 1 ≤ sizeLine; decide, fun q hq => ⟨_, rfl, .inr (.inr (.inr ⟨q, _, [.int 0], rfl, rfl, upd_same, by omega, by omega, szl (by simp; omega), fun r hr' => ?_⟩))⟩⟩
    rw [e2, flat_rep]
    have nrq : r ≠ q := fun z => by rw [z, upd_same] at hr'; cases hr'
    have hrn : H' r = none := by rw [upd_ne nrq] at hr'; exact hr'
    have nrl : r ≠ l3 := fun z => by rw [z, h3] at hrn; cases hrn
    have nql : q ≠ l3 := fun z => by rw [z, h3] at hq; cases hq
    have hr4 : H4 r = none := by
      cases e : H4 r with
      | none => rfl
      | some o => rw [hk _ _ e] at hrn; cases hrn
    have nin : r ∉ rows := fun z => by rw [(hr r z).2.2] at hrn; cases hrn
    refine ⟨rows.map V.ref, ?_, ?_, rows ++ [r], by simp [hl], fun a o h => ?_, ?_, ?_, fun r' hr2 => ?_⟩
    · rw [upd_ne (Ne.symm nrl), upd_ne (Ne.symm nql)]; exact h3
    · exact szlt (by rw [List.length_map]; omega)
    · have h' := hk a o h
      rw [upd_ne (fun z => by rw [z, hl3'] at h; cases h), upd_ne (fun z => by rw [z, hrn] at h'; cases h'), upd_ne (fun z => by rw [z, hq] at h'; cases h')]; exact h'
    · rw [upd_same, List.map_append]; rfl
    · refine List.nodup_append.mpr ⟨nd, by simp, fun a ha b hb e => nin ?_⟩
      have e3 : b = r := by simpa using hb
      rw [← e3, ← e]; exact ha
    · rcases List.mem_append.mp hr2 with h6 | h6
      · obtain ⟨q1, q2, q3⟩ := hr r' h6
        refine ⟨q1, q2, ?_⟩
        rw [upd_ne q2, upd_ne (fun z => nin (by rw [← z]; exact h6)), upd_ne (fun z => by rw [z, hq] at q3; cases q3)]; exact q3
      · have : r' = r := by simpa using h6
        subst this
        exact ⟨hr4, nrl, by rw [upd_ne nrl, upd_same]; rfl⟩
  obtain ⟨rows, hl, hk5, h3, nd, hr5⟩ := h5
  have nl3x : l3 ≠ x := fun z => by rw [z, hx4] at hl3'; cases hl3'
  have n13 : l1 ≠ l3 := fun z => by rw [← z, hl4] at hl3'; cases hl3'
  have n23 : l2 ≠ l3 := fun z => by rw [← z, hm4] at hl3'; cases hl3'
  refine ⟨_, rfl, x, dx, _, rfl, hk5 _ _ hx4, by show 3 < 1000; decide, ?_⟩
  have hx6 : upd H5 x (.ins C dx (putF "inverse" (.ref l3) [(("scale" : Str), .int 1), (("levels" : Str), .ref l1), (("members" : Str), .ref l2)])) x = some (.ins C dx [(("scale" : Str), .int 1), (("levels" : Str), .ref l1), (("members" : Str), .ref l2), (("inverse" : Str), .ref l3)]) := upd_same
  have k6 : ∀ a o, a ≠ x → H5 a = some o → upd H5 x (.ins C dx (putF "inverse" (.ref l3) [(("scale" : Str), .int 1), (("levels" : Str), .ref l1), (("members" : Str), .ref l2)])) a = some o := fun a o ha h => by rw [upd_ne ha]; exact h
  generalize upd H5 x (.ins C dx (putF "inverse" (.ref l3) [(("scale" : Str), .int 1), (("levels" : Str), .ref l1), (("members" : Str), .ref l2)])) = H6 at hx6 k6 ⊢
  have nrx : ∀ r ∈ rows, r ≠ x := fun r hr z => by have := (hr5 r hr).1; rw [z, hx4] at this; cases this
  have hg6 : H6 g = some (.tup (goal.map V.int)) := k6 _ _ ngx (hk5 _ _ (k5 _ _ ngx hg))
  have h36 : H6 l3 = some (.lst (rows.map V.ref)) := k6 _ _ nl3x h3
  have hr6 : ∀ r ∈ rows, H4 r = none ∧ r ≠ l3 ∧ H6 r = some (.lst (zrow goal.length)) := fun r hr => ⟨(hr5 r hr).1, (hr5 r hr).2.1, k6 _ _ (nrx r hr) (hr5 r hr).2.2⟩
  -- the diagonal
  refine ⟨_, rfl, ((goal.map V.int).length : Int), rfl, by omega, by omega, ?_⟩
  rw [e2]
  refine for_range (lo := 0) (n := goal.length) (fun i σ H' => (∃ t, σ = [some (.ref x), some (.ref g), some (.int ((goal.map V.int).length : Int)), t, none, none]) ∧ (∀ a o, a ∉ rows → H6 a = some o → H' a = some o) ∧ ∀ (k : Nat) r, rows[k]? = some r → H' r = some (.lst (if k < i then irow goal k else zrow goal.length)))
    ⟨⟨none, rfl⟩, fun a o _ h => h, fun k r hr => by rw [if_neg (by omega)]; exact (hr6 r (List.mem_of_getElem? hr)).2.2⟩ ?_ ?_
  · rintro i σ H' hi ⟨⟨t, rfl⟩, hk, hr⟩
    have hgo : goal[i]? = some (goal.getD i 0) := by rw [List.getD_eq_getElem?_getD, List.getElem?_eq_getElem hi]; rfl
    obtain ⟨r, hri⟩ : ∃ r, rows[i]? = some r := ⟨rows[i]'(by omega), List.getElem?_eq_getElem _⟩
    have hrm := List.mem_of_getElem? hri
    have ngr : g ∉ rows := fun z => by have := (hr6 g z).2.2; rw [hg6] at this; cases this
    have nxr : x ∉ rows := fun z => nrx x z rfl
    have nl3r : l3 ∉ rows := fun z => (hr6 l3 z).2.1 rfl
    have e0 : (0 : Int) + (i : Int) = (i : Int) := Int.zero_add _
    have at_g : atI (goal.map V.int) (i : Int) = some (.int (goal.getD i 0)) := atI_nat (by rw [List.getElem?_map, hgo]; rfl)
    have at_r : atI (rows.map V.ref) (i : Int) = some (.ref r) := atI_nat (by rw [List.getElem?_map, hri]; rfl)
    have fin : ∀ v : Int, v = (if goal.getD i 0 < 0 then -1 else 1) →
        gSub (tOp (rIxQ K) (tFldC C (tVar 0) "inverse") (tVar 3)) (tVar 3) rSetL (.int v) [some (.ref x), some (.ref g), some (.int ((goal.map V.int).length : Int)), some (.int (i : Int)), none, none] H'
          fun σ H' => (∃ t, σ = [some (.ref x), some (.ref g), some (.int ((goal.map V.int).length : Int)), t, none, none]) ∧ (∀ a o, a ∉ rows → H6 a = some o → H' a = some o) ∧ ∀ (k : Nat) r, rows[k]? = some r → H' r = some (.lst (if k < i + 1 then irow goal k else zrow goal.length)) := by
      intro v hv
      refine ⟨_, rfl, x, dx, _, .ref l3, rfl, hk _ _ nxr hx6, rfl, ?_⟩
      refine ⟨_, rfl, .inl ⟨l3, _, _, _, rfl, rfl, SqL.of (hk _ _ nl3r h36), at_r, ?_⟩⟩
      have hrow := hr i r hri
      rw [if_neg (by omega)] at hrow
      refine ⟨_, rfl, r, _, _, i, rfl, rfl, hrow, by rw [show (zrow goal.length).length = goal.length from List.length_replicate ..]; exact ixN_nat hi, ⟨_, rfl⟩, fun a o ha h => ?_, fun k r' hkr => ?_⟩
      · rw [upd_ne (fun z => ha (by rw [z]; exact hrm))]; exact hk a o ha h
      · by_cases q : k = i
        · subst q
          rw [hri] at hkr; cases hkr
          rw [upd_same, if_pos (by omega), hv]; rfl
        · have : r' ≠ r := fun z => q (by
            have h7 := (List.getElem?_eq_some_iff.mp hkr).1
            subst z
            exact (List.getElem?_inj h7 nd).mp (hkr.trans hri.symm))
          rw [upd_ne this, hr k r' hkr]
          by_cases z : k < i
          · rw [if_pos z, if_pos (by omega)]
          · rw [if_neg z, if_neg (by omega)]
    rw [e0]
    refine ⟨_, rfl, _, rfl, .inr ⟨g, _, _, _, rfl, rfl, SqT.of (hk _ _ ngr hg6), at_g, _, _, rfl, rfl, _, rfl, ?_⟩⟩
    by_cases q : goal.getD i 0 < 0
    · dsimp only
      rw [if_pos (decide_eq_true q)]
      exact ⟨_, rfl, fin (-1) (by rw [if_pos q])⟩
    · dsimp only
      rw [if_neg (by rw [decide_eq_true_iff]; exact q)]
      exact fin 1 (by rw [if_neg q])
  · rintro σ H' ⟨_, hk, hr⟩
    have nr : ∀ a, H4 a ≠ none → a ∉ rows := fun a ha z => ha (hr6 a z).1
    refine hQ H' l1 l2 l3 rows { keep := fun a o ha h => ?_, ob := ?_, f1 := f1, f2 := z3 _ hl3, f3 := z4 _ hl3', n12 := n12, n13 := n13, n23 := n23, h1 := ?_, h2 := ?_, h3 := ?_, len := hl, rw_ := fun k r hkr => ?_ }
    · have h4 := k5 a o ha h
      exact hk a o (nr a (by rw [h4]; exact fun z => by cases z)) (k6 _ _ ha (hk5 _ _ h4))
    · exact hk _ _ (nr x (by rw [hx4]; exact fun z => by cases z)) hx6
    · have : (BSt.new goal).levels.map V.int = goal.map fun z => V.int (if z < 0 then -z else z) := by
        show ((goal.map fun z => if z < 0 then -z else z)).map V.int = _
        rw [List.map_map]; rfl
      rw [this]
      exact hk _ _ (nr l1 (by rw [hl4]; exact fun z => by cases z)) (k6 _ _ nl1x (hk5 _ _ hl4))
    · have : (BSt.new goal).members.map memV = List.replicate goal.length V.non := by
        show (List.replicate goal.length none).map memV = _
        rw [List.map_replicate]; rfl
      rw [this]
      exact hk _ _ (nr l2 (by rw [hm4]; exact fun z => by cases z)) (k6 _ _ nl2x (hk5 _ _ hm4))
    · exact hk _ _ (fun z => (hr6 l3 z).2.1 rfl) h36
    · have hm := List.mem_of_getElem? hkr
      have h7 := (List.getElem?_eq_some_iff.mp hkr).1
      have h8 := hr k r hkr
      rw [if_pos (by omega)] at h8
      refine ⟨z4 _ (hr6 r hm).1, fun z => ?_, fun z => ?_, (hr6 r hm).2.1, h8⟩
      · have := (hr6 r hm).1; rw [z, hl4] at this; cases this
      · have := (hr6 r hm).1; rw [z, hm4] at this; cases this
end Lf
set_option Elab.async false
set_option linter.all false
set_option maxRecDepth 100000
set_option maxHeartbeats 4000000
/-! A name gets a new basis -/
namespace Lf
open PySem PySem.Spec PyProof.Rows L2 RZ
theorem EnvF.newO {Hs Fr H : Hp} {σ : L2.St} {env : Env} {fp : Nat → List Addr} (r : EnvF Hs Fr H σ env fp) (i : Nat) {v : V} {w : Ow} {fp' : List Addr} (h : w.At Hs H v fp') (hf : ∀ a ∈ fp', Fr a = none) (hn : ∀ (j : Nat) e, env[j]? = some (some e) → ∀ a ∈ fp j, a ∉ fp') :
    EnvF Hs Fr H (σ.set i (some v)) (env.set i (some (.o w))) (fun j => if j = i then fp' else fp j) := by
  refine ⟨by simp [r.len], fun j e he => ?_, fun j e he a ha => ?_, fun j k e e' hjk h1 h2 a ha => ?_⟩
  · by_cases q' : j = i
    · subst q'
      have hl : j < env.length := by
        have := (List.getElem?_eq_some_iff.mp he).1
        simpa using this
      rw [List.getElem?_set_self hl] at he
      cases he
      exact ⟨_, List.getElem?_set_self (by rw [r.len]; exact hl), by show w.At Hs H v (if j = j then fp' else fp j); rw [if_pos rfl]; exact h⟩
    · rw [List.getElem?_set_ne (Ne.symm q')] at he
      obtain ⟨u, h1, h2⟩ := r.at_ j e he
      exact ⟨u, by rw [List.getElem?_set_ne (Ne.symm q')]; exact h1, by simp only [if_neg q']; exact h2⟩
  · by_cases q' : j = i
    · rw [if_pos q'] at ha
      exact hf a ha
    · rw [if_neg q'] at ha
      rw [List.getElem?_set_ne (Ne.symm q')] at he
      exact r.fr j e he a ha
  · by_cases q' : j = i
    · rw [if_pos q'] at ha
      have hk : k ≠ i := fun z => hjk (q'.trans z.symm)
      rw [if_neg hk]
      rw [List.getElem?_set_ne (Ne.symm hk)] at h2
      exact fun z => hn k e' h2 a z ha
    · rw [if_neg q'] at ha
      rw [List.getElem?_set_ne (Ne.symm q')] at h1
      by_cases q2 : k = i
      · rw [if_pos q2]
        exact hn j e h1 a ha
      · rw [if_neg q2]
        rw [List.getElem?_set_ne (Ne.symm q2)] at h2
        exact r.dis j k e e' hjk h1 h2 a ha
def tMkB (C : Addr) (i j : Nat) : TS := tAsg (tMake C (initSp C) [] E0 (tCons (tVar j) tNil)) (gName i)
theorem ps_mkB {X : Cx} {st : Stmt} {C : Addr} {i j : Nat} (h : PS X st (tAsg (tMake C (initSp C) [] E0 (tCons (tVar j) tNil)) (gName i))) : PS X st (tMkB C i j) := h
def dMkB (C : Addr) (i j : Nat) : DS := fun env E => ∃ goal : List Int, env[j]? = some (some (.d (.tup (goal.map .int)))) ∧ goal.length ≤ 60 ∧ free env i = true ∧ E.nx (env.set i (some (.o (bas C (BSt.new goal)))))
theorem irow_eq {goal : List Int} {k : Nat} (h : k < goal.length) {r : List Int} (hr : (BSt.new goal).inverse[k]? = some r) : irow goal k = r.map V.int := by
  have e : r = (List.range goal.length).map fun i => if i = k then (if goal.getD k 0 < 0 then -1 else 1) else 0 := by
    have h2 : (BSt.new goal).inverse[k]? = some ((List.range goal.length).map fun i => if i = k then (if goal.getD k 0 < 0 then -1 else 1) else 0) := by
      show ((List.range goal.length).map fun k => (List.range goal.length).map fun i => if i = k then (if goal.getD k 0 < 0 then -1 else 1) else 0)[k]? = _
      rw [List.getElem?_map, List.getElem?_range h]; rfl
    rw [h2] at hr; exact (Option.some.inj hr).symm
  subst e
  apply List.ext_getElem?
  intro i
  unfold irow zrow
  rw [List.getElem?_set, List.length_replicate, List.getElem?_replicate]
  by_cases hi : i < goal.length
  · rw [List.getElem?_map, List.getElem?_map, List.getElem?_range hi]
    by_cases q : k = i
    · subst q; simp [hi]
    · have q2 : ¬ i = k := fun z => q z.symm
      simp [q, q2, hi]
  · rw [List.getElem?_eq_none (by simp; omega)]
    have q : ¬ k = i := by omega
    simp [q, hi]
theorem new_gn {goal : List Int} {l1 l2 l3 : Addr} : ∀ f, (BSt.new goal).flds.lookup f = none → [(("scale" : Str), V.int 1), (("levels" : Str), .ref l1), (("members" : Str), .ref l2), (("inverse" : Str), .ref l3)].lookup f = none := fun f hf => by
  unfold BSt.flds at hf
  simp only [List.lookup] at hf ⊢
  split at hf
  · cases hf
  · split at hf
    · cases hf
    · split at hf
      · cases hf
      · split at hf
        · cases hf
        · rfl
instance {C : Addr} {i j : Nat} : AbsS (tMkB C i j) (dMkB C i j) := ⟨fun σ Hs Fr H env D E er sf fh h kn kr kb kc => by
  obtain ⟨goal, hg, n60, hfree, hE⟩ := h
  obtain ⟨v, hv, rv⟩ := er.dat hg
  obtain ⟨a, vs, rfl, ha, ra⟩ := rv.tup_inv
  have ev := ints_of ra
  subst ev
  have haH : H a = some (.tup (goal.map V.int)) := (sf.trans fh) _ _ ha
  obtain ⟨fp, r⟩ := er
  refine ⟨_, hv, fun x dx hx hdx ne => ?_⟩
  have nax : a ≠ x := fun z => by rw [z, hx] at haH; cases haH
  have nad : a ≠ dx := fun z => by rw [z, hdx] at haH; cases haH
  refine ⟨x, dx, a, goal, rfl, upd_same, by rw [upd_ne nax, upd_ne nad]; exact haH, n60, fun H' l1 l2 l3 rows M => ⟨rfl, ?_⟩⟩
  have base : ∀ b o, H b = some o → upd (upd H dx (.own x)) x (.ins C dx []) b = some o := fun b o h => by
    rw [upd_ne (fun z => by rw [z, hx] at h; cases h), upd_ne (fun z => by rw [z, hdx] at h; cases h)]; exact h
  have fresh : ∀ b, upd (upd H dx (.own x)) x (.ins C dx []) b = none → H b = none ∧ b ≠ x ∧ b ≠ dx := fun b h => by
    have n1 : b ≠ x := fun z => by rw [z, upd_same] at h; cases h
    rw [upd_ne n1] at h
    have n2 : b ≠ dx := fun z => by rw [z, upd_same] at h; cases h
    rw [upd_ne n2] at h
    exact ⟨h, n1, n2⟩
  have hh : Same H H' := fun b o h => M.keep b o (fun z => by rw [z, hx] at h; cases h) (base b o h)
  have hd' : H' dx = some (.own x) := M.keep _ _ ne (by rw [upd_ne ne, upd_same])
  obtain ⟨z1, z1x, z1d⟩ := fresh _ M.f1
  obtain ⟨z2, z2x, z2d⟩ := fresh _ M.f2
  obtain ⟨z3, z3x, z3d⟩ := fresh _ M.f3
  have rfree : ∀ b ∈ rows, H b = none ∧ b ≠ x ∧ b ≠ dx ∧ b ≠ l1 ∧ b ≠ l2 ∧ b ≠ l3 := fun b hb => by
    obtain ⟨k, hk⟩ := List.mem_iff_getElem?.mp hb
    obtain ⟨q1, q2, q3, q4, _⟩ := M.rw_ k b hk
    obtain ⟨q5, q6, q7⟩ := fresh _ q1
    exact ⟨q5, q6, q7, q2, q3, q4⟩
  have fr0 : ∀ b ∈ rows, Fr b = none := fun b hb => none_of fh (rfree b hb).1
  have hs0 : ∀ b ∈ rows, Hs b = none := fun b hb => none_of sf (fr0 b hb)
  have g : Gr Hs Fr H (both Hs H' rows) (both Fr H' rows) H' :=
    ⟨⟨both_same, both_same, fun b h1 h2 => by
      have : b ∉ rows := fun z => h1 (fr0 b z)
      rw [both_out this]; exact h2⟩, hh, both_both sf fr0, both_heap (fh.trans hh), fun b h1 h2 => by
      have : b ∉ rows := fun z => h1 (rfree b z).1
      rw [both_out this]; exact h2⟩
  have out : ∀ b, H b = none → b ∉ rows → both Fr H' rows b = none := fun b h1 h2 => by rw [both_out h2]; exact none_of fh h1
  have atB : (bas C (BSt.new goal)).At (both Hs H' rows) H' (.ref x) [x, dx, l1, l2, l3] := by
    refine ⟨x, dx, l1, l2, l3, _, rows.map V.ref, { ev := rfl, ef := rfl, n12 := M.n12, n13 := M.n13, n23 := M.n23, hp := M.ob, hd := hd', few := by show 4 < 1000; decide, g0 := rfl, g1 := rfl, g2 := rfl, g3 := rfl, gn := new_gn, h1 := M.h1, h2 := M.h2, h3 := M.h3, hr := ?_ }⟩
    have li : (BSt.new goal).inverse.length = goal.length := by
      show ((List.range goal.length).map _).length = _
      rw [List.length_map, List.length_range]
    refine ⟨by rw [List.length_map, List.length_map, li, M.len], fun k v d h1 h2 => ?_⟩
    rw [List.getElem?_map] at h1 h2
    cases q : rows[k]? with
    | none => rw [q] at h1; cases h1
    | some b =>
      rw [q] at h1; cases h1
      cases q2 : (BSt.new goal).inverse[k]? with
      | none => rw [q2] at h2; cases h2
      | some rr =>
        rw [q2] at h2; cases h2
        have hk : k < goal.length := by have := (List.getElem?_eq_some_iff.mp q2).1; omega
        have hb := List.mem_of_getElem? q
        obtain ⟨_, _, _, _, h5⟩ := M.rw_ k b q
        rw [irow_eq hk q2] at h5
        exact rp_ints (by rw [both_in hb (hs0 b hb)]; exact h5)
  have mem5 : ∀ b ∈ [x, dx, l1, l2, l3], H b = none ∧ b ∉ rows := fun b hb => by
    have : b = x ∨ b = dx ∨ b = l1 ∨ b = l2 ∨ b = l3 := by simpa using hb
    rcases this with rfl | rfl | rfl | rfl | rfl
    · exact ⟨hx, fun z => (rfree _ z).2.1 rfl⟩
    · exact ⟨hdx, fun z => (rfree _ z).2.2.1 rfl⟩
    · exact ⟨z1, fun z => (rfree _ z).2.2.2.1 rfl⟩
    · exact ⟨z2, fun z => (rfree _ z).2.2.2.2.1 rfl⟩
    · exact ⟨z3, fun z => (rfree _ z).2.2.2.2.2 rfl⟩
  have r2 := r.gr g
  refine kn _ _ _ _ H' ⟨_, r2.newO i atB (fun b hb => out b (mem5 b hb).1 (mem5 b hb).2) (fun k e he b hb hm => ?_)⟩ g.st g.sf g.fh (.set _ _ hfree) hE
  obtain ⟨u, h1, h2⟩ := r.at_ k e he
  exact En.known h2 b hb (mem5 b hm).1⟩
theorem st_mkB {C : Addr} {i j : Nat} {env : Env} {E : DEnds} {goal : List Int} (h : env[j]? = some (some (.d (.tup (goal.map .int))))) (l : goal.length ≤ 60) (f : free env i = true) (k : E.nx (env.set i (some (.o (bas C (BSt.new goal)))))) : dMkB C i j env E := ⟨goal, h, l, f, k⟩
end Lf
set_option Elab.async false
set_option linter.all false
set_option maxRecDepth 100000
set_option maxHeartbeats 4000000
/-! Calls with keywords; the script of a law; the object that a law draws from, made -/
namespace Lf
open PySem PySem.Spec PyProof.Rows L2 RZ
/-! ### f(e, .., k = v, ..) of a def without defaults -/
/-- how the values are put: the keywords' behind the others, or turned about -/
inductive KG where
  | app | rev
def KG.of {α : Type} : KG → List α → List α → List α
  | .app, us, ws => us ++ ws
  | .rev, us, ws => us ++ ws.reverse
theorem vals_app : ∀ {vs ws : List V} {us zs : List Value}, Vals vs us → Vals ws zs → Vals (vs ++ ws) (us ++ zs)
  | _, _, _, _, .nil, h => h
  | _, _, _, _, .cons r t, h => .cons r (vals_app t h)
theorem vals_rev : ∀ {vs : List V} {us : List Value}, Vals vs us → Vals vs.reverse us.reverse
  | _, _, .nil => .nil
  | _, _, .cons r t => by
    rw [List.reverse_cons, List.reverse_cons]
    exact vals_app (vals_rev t) (.cons r .nil)
theorem KG.rel {kg : KG} {vs zs : List V} {us ws : List Value} (r : Vals vs us) (t : Vals zs ws) : Vals (kg.of vs zs) (kg.of us ws) := by
  cases kg with
  | app => exact vals_app r t
  | rev => exact vals_app r (vals_rev t)
theorem RpA.rev {H : Hp} : ∀ {vs : List V} {ds : List D}, RpA H vs ds → RpA H vs.reverse ds.reverse
  | [], [], _ => .nil
  | [], _ :: _, r => by have := r.1; simp at this
  | _ :: _, [], r => by have := r.1; simp at this
  | v :: vs, d :: ds, r => by
    rw [List.reverse_cons, List.reverse_cons]
    exact (RpA.rev ⟨by have := r.1; simpa using this, fun i x e h1 h2 => r.2 (i + 1) x e (by simpa using h1) (by simpa using h2)⟩).snoc (r.2 0 v d rfl rfl)
theorem KG.rpa {kg : KG} {H : Hp} {vs zs : List V} {ds es : List D} (r : RpA H vs ds) (t : RpA H zs es) : RpA H (kg.of vs zs) (kg.of ds es) := by
  cases kg with
  | app => exact r.append t
  | rev => exact r.append t.rev
section
variable {K : PySem.W.Frag} {x qual : Str} {params : Arguments} {body : List Stmt} {scope : Scope} {f : Addr} {fd : FuncData} {ps : List Str}
theorem kbG (F : FunD K x qual params body scope [] [] f fd) (kg : KG) (n : Nat) (ks : List Str)
    (h : ∀ (kV doc pm : Value) (an : Option Addr) (cdv ct : Value) (us ws : List Value), us.length = n → ws.length = ks.length → bindArgs (PySem.W.fnOf x qual params body scope .none kV doc pm an cdv ct) ⟨us, ks.zip ws⟩ = pure (ps.zip (kg.of us ws))) :
    KBn K fd ps n ks (KG.of kg) (KG.of kg) := by
  obtain ⟨oc, od, dV, kV, doc, pm, an, cdv, ct, osl, rfl, lk, hcd, hD, hK⟩ := F.ex
  rcases hD with ⟨_, rfl⟩ | ⟨e, _⟩
  · exact ⟨fun s us ws _ l1 l2 => .of_eq (h kV doc pm an cdv ct us ws l1 l2), KG.rel⟩
  · exact absurd rfl e
end
section
variable {X : Cx} {CX : CXT} {k n : Nat} {f : Addr} {fd : FuncData} {ps ks : List Str} {sp : Sp} {E : XK} {x : Str} {p pos : Pos} {e : Expr} {es : List Expr} {kws : List Keyword} {t tk : TA} {g : List Value → List Value → List Value} {gV : List V → List V → List V}
/-- f(k = v, ..) -/
theorem pe_callN0 (F : FnOk X.prog X.w X.K X.mg X.base CX k f fd ps sp) (hr : Room k X.A) (hg : Gl X x) (hm : X.mg x = some (.ref f)) (hk : PySem.W.keepIn X.K (.ref f) = true) (hb : KBn X.K fd ps 0 ks g gV) (hx : Passes CX X E)
    (hkw : PK X kws tk) (hall : (backToKw pos (keywordEach kws X.env)).all (·.1.isSome) = true := by rfl) (hks : (backToKw pos (keywordEach kws X.env)).filterMap (·.1) = ks := by rfl)
    (hdb : (x == ("__debug__" : Str)) = false := by decide)
    (hpl : ((backTo pos (starEach [] X.env)).any (·.1) || (backToKw pos (keywordEach kws X.env)).any (·.1.isNone)) = false := by rfl) :
    PE X (.Call (.Name x p) [] kws pos) (tCallN 0 ks.length sp gV E tNil tk) := by
  refine ⟨fun pins s σ H Q I h => ?_⟩
  refine wpAny_Call_Name_kw (ld_glob I hg hm ?_ hdb)
  refine PySem.W.callWith_KW0 (h₀ := X.base) I.ok.mod.kin hk hall ?_ hpl
  refine thn (hkw.run pos pins s σ H _ I h) fun ws s2 ⟨zs, H2, I2, rz, l1, l2, q2⟩ => ⟨I2.kIn, ?_⟩
  rw [hks]
  exact run_fnN (us := []) (vs := []) F hr hb hx I2 .nil rz rfl l2 q2
end
/-- what a def promises of calls with keywords -/
def FnK (P : Program) (w : World) (K : PySem.W.Frag) (mg : Str → Option Value) (base : Heap) (k : Nat) (x : Str) (ps : List Str) (sp : Sp) (kg : KG) (n : Nat) (ks : List Str) : Prop :=
  ∃ f fd, FnOk P w K mg base CX0 k f fd ps sp ∧ KBn K fd ps n ks (KG.of kg) (KG.of kg) ∧ mg x = some (.ref f) ∧ PySem.W.keepIn K (.ref f) = true
def tCallG (kg : KG) (n m : Nat) (sp : Sp) (t tk : TA) : TE := tCallN n m sp (KG.of kg) E0 t tk
section
variable {X : Cx} {k n : Nat} {ps ks : List Str} {sp : Sp} {kg : KG} {x : Str} {p pos : Pos} {e : Expr} {es : List Expr} {kws : List Keyword} {t tk : TA}
theorem pe_fk (F : FnK X.prog X.w X.K X.mg X.base k x ps sp kg n ks) (hr : Room k X.A) (hg : Gl X x) (ha : PA X (e :: es) t) (hkw : PK X kws tk)
    (hall : (backToKw pos (keywordEach kws X.env)).all (·.1.isSome) = true := by rfl) (hks : (backToKw pos (keywordEach kws X.env)).filterMap (·.1) = ks := by rfl)
    (hdb : (x == ("__debug__" : Str)) = false := by decide) (he : starEach (e :: es) X.env = (false, eval e X.env) :: starEach es X.env := by rfl)
    (hpl : ((backTo pos (starEach (e :: es) X.env)).any (·.1) || (backToKw pos (keywordEach kws X.env)).any (·.1.isNone)) = false := by rfl) :
    PE X (.Call (.Name x p) (e :: es) kws pos) (tCallG kg n ks.length sp t tk) := by
  obtain ⟨f, fd, F, hb, hm, hk⟩ := F
  exact pe_callN F hr hg hm hk hb pass0 ha hkw hall hks hdb he hpl
theorem pe_fk0 (F : FnK X.prog X.w X.K X.mg X.base k x ps sp kg 0 ks) (hr : Room k X.A) (hg : Gl X x) (hkw : PK X kws tk)
    (hall : (backToKw pos (keywordEach kws X.env)).all (·.1.isSome) = true := by rfl) (hks : (backToKw pos (keywordEach kws X.env)).filterMap (·.1) = ks := by rfl)
    (hdb : (x == ("__debug__" : Str)) = false := by decide)
    (hpl : ((backTo pos (starEach [] X.env)).any (·.1) || (backToKw pos (keywordEach kws X.env)).any (·.1.isNone)) = false := by rfl) :
    PE X (.Call (.Name x p) [] kws pos) (tCallG kg 0 ks.length sp tNil tk) := by
  obtain ⟨f, fd, F, hb, hm, hk⟩ := F
  exact pe_callN0 F hr hg hm hk hb pass0 hkw hall hks hdb hpl
end
def dCallG (kg : KG) (n m k : Nat) (pw : PW) (da dk : DA) : DE := fun env C => da env fun ds env1 => dk env1 fun es env2 => ds.length = n ∧ es.length = m ∧ (kg.of ds es).length = k ∧ pw (kg.of ds es) fun d => C d env2
instance {kg : KG} {n m k : Nat} {pw : PW} {t tk : TA} {da dk : DA} [ha : AbsA t da] [hk : AbsA tk dk] : AbsE (tCallG kg n m (PSp k pw) t tk) (dCallG kg n m k pw da dk) := ⟨fun σ Hs Fr H env Q C er sf fh h kk => by
  refine ha.run σ Hs Fr H env _ _ er sf fh h fun vs ds env1 Hs1 Fr1 H1 r1 s1 sf1 fh1 ra hc => ?_
  refine hk.run σ Hs1 Fr1 H1 env1 _ _ r1 sf1 fh1 hc fun zs es env2 Hs2 Fr2 H2 r2 s2 sf2 fh2 rz hc2 => ?_
  obtain ⟨h1, h2, h3, hp⟩ := hc2
  have rA : RpA Hs2 (kg.of vs zs) (kg.of ds es) := KG.rpa (ra.mono s2.s) rz
  obtain ⟨fp, rf⟩ := r2
  have hP := rf.ownedP (fun _ => False)
  refine ⟨by rw [ra.1]; exact h1, by rw [rz.1]; exact h2, by rw [rA.1]; exact h3, Hs2, frC Fr2 H2 (Owned env2 fp fun _ => False), _, _, sf2.trans frC_keep, frC_heap fh2, rA, hp, fun v d Hs' Fr' H' s' sf' fh' rv c => ?_⟩
  have A := after sf2 hP s' sf' fh'
  refine kk v d env2 Hs' _ H' ⟨fp, rf.len, fun i e he => ?_, fun i e he a ha => ?_, rf.dis⟩ ((s1.trans s2).trans A.st) A.sf A.fh rv c
  · obtain ⟨u, h1, h2⟩ := rf.at_ i e he
    exact ⟨u, h1, En.mono h2 s'.s fun a ha => A.at_ a ⟨i, e, id, he, ha⟩⟩
  · have z : Owned env2 fp (fun _ => False) a := ⟨i, e, id, he, ha⟩
    show frD Fr' _ a = none
    unfold frD
    simp only [z, if_true]⟩
theorem ev_callG {env : Env} {kg : KG} {n m k : Nat} {pw : PW} {da dk : DA} {ds es : List D} {d : D} (h1 : EvA da env ds) (h2 : EvA dk env es) (l1 : ds.length = n) (l2 : es.length = m) (l3 : (kg.of ds es).length = k)
    (h : ∀ C : D → Prop, C d → pw (kg.of ds es) C) : Ev (dCallG kg n m k pw da dk) env d := fun C q => h1 _ fun _ e => by
  subst e
  exact h2 _ fun _ e => by
    subst e
    exact ⟨l1, l2, l3, h _ (q _ rfl)⟩
/-! ### the script -/
theorem rd_mono {H H' : Hp} {a : Addr} {u : HO} (s : Same H H') (h : Rd H a u) : Rd H' a u := by
  rcases h with h | ⟨o, h⟩
  · exact .inl (s _ _ h)
  · exact .inr ⟨o, s _ _ h⟩
theorem sqL_mono {K : PySem.W.Frag} {H H' : Hp} {a : Addr} {xs : List V} (s : Same H H') (h : SqL K H a xs) : SqL K H' a xs := by
  rcases h with h | h
  · exact .inl (rd_mono s h)
  · exact .inr h
def scrO (K : PySem.W.Frag) (ns : List Int) : Ow where
  At := fun Hs H v fp => fp = [] ∧ ∃ a, v = .ref a ∧ SqL K Hs a (ns.map V.int)
  mono := fun ⟨e, a, h1, h2⟩ s _ => ⟨e, a, h1, sqL_mono s h2⟩
  known := fun ⟨e, _⟩ a ha => by rw [e] at ha; simp at ha
theorem rpa_ints {H : Hp} (ns : List Int) : RpA H (ns.map V.int) (ns.map D.int) := ⟨by simp, fun i v d h1 h2 => by
  rw [List.getElem?_map] at h1 h2
  cases q : ns[i]? with
  | none => rw [q] at h1; cases h1
  | some z => rw [q] at h1 h2; cases h1; cases h2; exact .int z⟩
/-- for x in script -/
def tScr (K : PySem.W.Frag) (i : Nat) : TI := iSeq K (tVar i)
theorem pi_scr {X : Cx} {tg l : Expr} {i : Nat} (h : PI X tg l (iSeq X.K (tVar i))) : PI X tg l (tScr X.K i) := h
def diScr (K : PySem.W.Frag) (i : Nat) : DI := fun env C => ∃ ns, env[i]? = some (some (.o (scrO K ns))) ∧ C (ns.map .int) env
instance {K : PySem.W.Frag} {i : Nat} : AbsI (tScr K i) (diScr K i) := ⟨fun σ Hs Fr H env R C er sf fh hd k => by
  obtain ⟨ns, hw, h⟩ := hd
  have er0 := er
  obtain ⟨fp, r⟩ := er
  obtain ⟨v, hv, _, a, rfl, hS⟩ := r.val hw
  refine ⟨_, hv, .inl ⟨a, rfl, ⟨_, sqL_mono (sf.trans fh) hS⟩, k _ _ env Hs Fr H er0 (Stp.refl _ _) sf fh ?_ h⟩⟩
  have q := rpa_ints (H := Hs) ns
  have len := q.1
  refine ⟨fun j H' hj fh' => ?_, fun j H' hj fh' => ?_, fun Hs2 Fr2 H2 j x H' s f sf2 fh2 hj y => ?_⟩
  · exact ⟨ns.map V.int, (ns.map V.int)[j]'(by omega), sqL_mono (sf.trans fh') hS, List.getElem?_eq_getElem _⟩
  · exact ⟨ns.map V.int, sqL_mono (sf.trans fh') hS, by omega⟩
  · obtain ⟨rfl, y⟩ := y
    have := y (ns.map V.int) (sqL_mono (s.trans (sf2.trans fh2)) hS)
    obtain ⟨d, hd, rd⟩ := q.at this
    exact ⟨d, Hs2, Fr2, hd, Gr.refl sf2 fh2, rd.mono s⟩⟩
/-- len(script) -/
def tLenS (K : PySem.W.Frag) (i : Nat) : TE := tCB (rLenQ K) (tCons (tVar i) tNil)
theorem pe_lenS {X : Cx} {K : PySem.W.Frag} {e : Expr} {i : Nat} (h : PE X e (tCB (rLenQ K) (tCons (tVar i) tNil))) : PE X e (tLenS K i) := h
def dLenS (K : PySem.W.Frag) (i : Nat) : DE := fun env C => ∃ ns, env[i]? = some (some (.o (scrO K ns))) ∧ C (.int ns.length) env
instance {K : PySem.W.Frag} {i : Nat} : AbsE (tLenS K i) (dLenS K i) := ⟨fun σ Hs Fr H env Q C er sf fh h k => by
  obtain ⟨ns, hw, h⟩ := h
  have er0 := er
  obtain ⟨fp, r⟩ := er
  obtain ⟨v, hv, _, a, rfl, hS⟩ := r.val hw
  refine ⟨_, hv, a, _, rfl, .inl (sqL_mono (sf.trans fh) hS), k _ _ env Hs Fr H er0 (Stp.refl _ _) sf fh ?_ h⟩
  rw [List.length_map]
  exact .int _⟩
theorem ev_lenS {K : PySem.W.Frag} {env : Env} {i : Nat} {ns : List Int} (h : env[i]? = some (some (.o (scrO K ns)))) : Ev (dLenS K i) env (.int ns.length) := fun C k => ⟨ns, h, k _ rfl⟩
theorem ei_scr {K : PySem.W.Frag} {env : Env} {i : Nat} {ns : List Int} (h : env[i]? = some (some (.o (scrO K ns)))) : EvI (diScr K i) env (ns.map .int) := fun C k => ⟨ns, h, k _ rfl⟩
end Lf
set_option Elab.async false
set_option linter.all false
set_option maxRecDepth 100000
set_option maxHeartbeats 4000000
/-! The object that a law draws from, made -/
namespace Lf
open PySem PySem.Spec PyProof.Rows L2 RZ
def drwKvs (l c : Addr) : List (Key × V) := [(Sum.inr ("large" : Str), .ref l), (Sum.inr ("cells" : Str), .ref c), (Sum.inr ("rest" : Str), .int 0), (Sum.inr ("turn" : Str), .int 0)]
structure Begun (H H' : Hp) (p l c : Addr) (large cells : List Int) : Prop where
  keep : Same H H'
  np : H p = none
  nl : H l = none
  nc : H c = none
  npl : p ≠ l
  npc : p ≠ c
  nlc : l ≠ c
  ob : H' p = some (.dK (drwKvs l c))
  hl : H' l = some (.lst (large.map V.int))
  hc : H' c = some (.lst (cells.map V.int))
  l0 : ∀ x ∈ large, 0 ≤ x
  c0 : ∀ x ∈ cells, 0 ≤ x
def begunSp (K : PySem.W.Frag) : Sp := fun vs H Q _ => ∃ (a : Addr) (ns : List Int), vs = [.ref a] ∧ SqL K H a (ns.map V.int) ∧ ns.length ≤ 1000 ∧ ∀ H' p l c large cells, Begun H H' p l c large cells → Q (.ref p) H'
abbrev tBig : TE := tOp (rI CPow fun i j => .int (i ^ j.toNat)) (tC (.int 10)) (tC (.int 18))
abbrev tAbsC : TE := tCB rAbs (tCons (tVar 2) tNil)
def tBegun (K : PySem.W.Frag) : TS :=
  tSeq (tAsgO (tLc (tScr K 0) (gName 2) (tTest (tOp (rI0 fun i j => .bl (decide (j ≤ i))) tAbsC tBig)) (tOp (rI0 fun i j => .int (i - j)) tAbsC tBig) [2]) 1)
    (tRet (tDisp [(tC (.str "large"), tVar 1), (tC (.str "cells"), tLc (tScr K 0) (gName 2) tYes tAbsC [2]), (tC (.str "rest"), tC (.int 0)), (tC (.str "turn"), tC (.int 0))]))
theorem take_at {α : Type} {xs : List α} {i : Nat} {x : α} (h : xs[i]? = some x) : xs.take (i + 1) = xs.take i ++ [x] := take_next h
theorem big_eq : (10 : Int) ^ (18 : Int).toNat = 1000000000000000000 := by decide +kernel
theorem ev_absC {env : Env} {z : Int} (h : env[2]? = some (some (.d (.int z)))) : Ev (dCB dAbs (dCons (dVar 2) dNil)) env (.int z.natAbs) := fun C k => by
  refine ⟨_, h, ?_⟩
  have e : (if z < 0 then -z else z) = (z.natAbs : Int) := by split <;> omega
  refine ⟨z, rfl, ?_⟩
  rw [e]; exact k _ rfl
theorem begun_pure {K : PySem.W.Frag} {vs : List V} {H : Hp} {Q : VK} {E : XK} (h : begunSp K vs H Q E) : tBegun K { nx := fun _ H' => Q .non H', rt := Q } (start ["script", "large", "cell"] vs) H := by
  obtain ⟨a, ns, rfl, hS, hl, hQ⟩ := h
  have er : EnvF H H H (start ["script", "large", "cell"] [.ref a]) [some (.o (scrO K ns)), none, none] (fun _ => []) := by
    refine ⟨rfl, fun i e he => ?_, fun i e he x hx => by simp at hx, fun i j e e' _ _ _ x hx => by simp at hx⟩
    match i, he with
    | 0, he => cases he; exact ⟨_, rfl, rfl, a, rfl, hS⟩
    | 1, he => simp at he
    | 2, he => simp at he
    | i + 3, he => simp at he
  let R : List D → Prop := fun xs => ∃ large : List Int, xs = large.map .int ∧ ∀ x ∈ large, 0 ≤ x
  have big : ∀ env : Env, Ev (dOp (rIIc CPow fun i j => i ^ j.toNat) (dC (.int 10)) (dC (.int 18))) env (.int 1000000000000000000) := fun env => ev_op ev_c ev_c fun C k => ⟨10, 18, rfl, rfl, ⟨by decide, by decide, by decide⟩, by show C (.int ((10 : Int) ^ (18 : Int).toNat)); rw [big_eq]; exact k⟩
  have i1 : AbsS (tAsgO (tLc (tScr K 0) (gName 2) (tTest (tOp (rI0 fun i j => .bl (decide (j ≤ i))) tAbsC tBig)) (tOp (rI0 fun i j => .int (i - j)) tAbsC tBig) [2]) 1)
    (dAsgO (dLcN (diScr K 0) (dgN 2) [2] (dTest (dOp (rIB fun i j => decide (j ≤ i)) (dCB dAbs (dCons (dVar 2) dNil)) (dOp (rIIc CPow fun i j => i ^ j.toNat) (dC (.int 10)) (dC (.int 18))))) (dOp (rII fun i j => i - j) (dCB dAbs (dCons (dVar 2) dNil)) (dOp (rIIc CPow fun i j => i ^ j.toNat) (dC (.int 10)) (dC (.int 18)))) [2]) 1) := inferInstance
  have i2 : AbsN (tLc (tScr K 0) (gName 2) tYes tAbsC [2]) (dLcN (diScr K 0) (dgN 2) [2] dYes (dCB dAbs (dCons (dVar 2) dNil)) [2]) := inferInstance
  refine i1.run _ H H H _ _ { nx := fun env => ∃ large : List Int, (∀ x ∈ large, 0 ≤ x) ∧ env = [some (.o (scrO K ns)), some (.l (large.map .int)), none], rt := fun _ _ => False } ⟨_, er⟩ (Same.refl _) (Same.refl _) ?_ ?_ (fun _ _ _ _ _ _ _ _ _ _ _ _ _ h => h.elim) (fun _ _ _ _ _ _ _ _ _ _ h => h.elim) (fun _ _ _ _ _ _ _ _ _ _ h => h.elim)
  · refine ⟨by simp, ns, rfl, by simp; omega, rfl, fun _ acc => R acc, ⟨[], rfl, by simp⟩, fun i acc _ hacc => ⟨fun x hx => ?_, fun e => ?_⟩⟩
    · obtain ⟨z, _, rfl⟩ : ∃ z, ns[i]? = some z ∧ x = .int z := by
        rw [List.getElem?_map] at hx
        cases q : ns[i]? with
        | none => rw [q] at hx; cases hx
        | some z => rw [q] at hx; cases hx; exact ⟨z, rfl, rfl⟩
      have ea := ev_absC (env := [some (.o (scrO K ns)), none, some (.d (.int z))]) rfl
      refine tg_n (by rfl) _ ?_
      refine et_test (p := decide ((1000000000000000000 : Int) ≤ z.natAbs)) (ev_op ea (big _) fun C k => rv_ib rfl k) _ fun b hb => ?_
      subst hb
      by_cases q : (1000000000000000000 : Int) ≤ z.natAbs
      · rw [if_pos (decide_eq_true q)]
        refine ev_op ea (big _) (fun C k => rv_ii rfl k) _ fun d hd => ?_
        subst hd
        obtain ⟨large, rfl, h0⟩ := hacc
        refine ⟨rfl, large ++ [(z.natAbs : Int) - 1000000000000000000], by simp, fun x hx => ?_⟩
        rcases List.mem_append.mp hx with hx | hx
        · exact h0 x hx
        · have : x = (z.natAbs : Int) - 1000000000000000000 := by simpa using hx
          omega
      · rw [if_neg (by simpa using q)]
        exact ⟨rfl, hacc⟩
    · obtain ⟨large, rfl, h0⟩ := hacc
      exact ⟨keepE_refl, rfl, large, h0, rfl⟩
  · rintro σ1 env1 Hs1 Fr1 H1 r1 s1 sf1 fh1 k1 ⟨large, h0, rfl⟩
    obtain ⟨l, vs, hl1, hl2, ra, hf⟩ := r1.own (i := 1) (xs := large.map .int) rfl
    have ev := ints_of ra
    subst ev
    have kH : Same H H1 := s1.f.trans fh1
    have nl : H l = none := none_of s1.f hf
    intro p hp
    have npl : p ≠ l := fun z => by rw [z, hl2] at hp; cases hp
    have np : H p = none := none_of kH hp
    have fp1 : Fr1 p = none := none_of fh1 hp
    have sp1 : Hs1 p = none := none_of sf1 fp1
    obtain ⟨fpf, rf⟩ := r1
    have nin := rf.not (.inr hp)
    have rf2 : EnvF Hs1 (upd Fr1 p (.dK [])) (upd H1 p (.dK [])) σ1 [some (.o (scrO K ns)), some (.l (large.map .int)), none] fpf := rf.frz (Same.refl _) nin (fun a ha => upd_ne ha) (fun a ha h => by rw [upd_ne ha]; exact h)
    refine ⟨_, hl1, ?_⟩
    dsimp only [tPairs, tC]
    refine i2.run σ1 Hs1 (upd Fr1 p (.dK [])) (upd H1 p (.dK [])) _ _ (fun ys env => env = [some (.o (scrO K ns)), some (.l (large.map .int)), none] ∧ ys = ns.map fun z => .int (z.natAbs : Int)) ⟨_, rf2⟩ (same_upd sf1 sp1) (same_upd2 fh1) ?_ ?_
    · refine ⟨by simp, ns, rfl, by simp; omega, rfl, fun i acc => acc = (ns.take i).map fun z => .int (z.natAbs : Int), rfl, fun i acc _ hacc => ⟨fun x hx => ?_, fun e => ?_⟩⟩
      · obtain ⟨z, hz, rfl⟩ : ∃ z, ns[i]? = some z ∧ x = .int z := by
          rw [List.getElem?_map] at hx
          cases q : ns[i]? with
          | none => rw [q] at hx; cases hx
          | some z => rw [q] at hx; cases hx; exact ⟨z, rfl, rfl⟩
        refine tg_n (by rfl) _ ?_
        refine et_yes _ fun b hb => ?_
        subst hb
        rw [if_pos rfl]
        refine ev_absC (by rfl) _ fun d hd => ?_
        subst hd
        refine ⟨rfl, ?_⟩
        dsimp only at hacc ⊢
        rw [hacc, take_at hz, List.map_append]; rfl
      · rw [List.length_map] at e
        subst e
        exact ⟨rfl, by rw [hacc, List.take_length]⟩
    · rintro c ws ds env3 Hs3 Fr3 H3 Fe r3 s3 sf3 fe eh off fc ec rc ⟨rfl, rfl⟩
      have ew : ws = (ns.map fun z => (z.natAbs : Int)).map V.int := ints_of (by rw [List.map_map]; exact rc)
      subst ew
      have nrc : Fr1 c = none := by
        by_cases z : c = p
        · rw [z]; exact fp1
        · have := none_of s3.f fc
          rw [upd_ne z] at this; exact this
      have npc : p ≠ c := fun z => by
        have := s3.f p (.dK []) upd_same
        rw [z, fc] at this; cases this
      have hp3 : H3 p = some (.dK []) := eh _ _ (by rw [off p npc]; exact s3.f _ _ upd_same)
      obtain ⟨l', vs', hl3, hl4, ra3, hf3⟩ := r3.own (i := 1) (xs := large.map .int) rfl
      rw [hl1] at hl3
      cases hl3
      have ev := ints_of ra3
      subst ev
      have hc3 : H3 c = some (.lst ((ns.map fun z => (z.natAbs : Int)).map V.int)) := eh _ _ ec
      have nlc : l ≠ c := fun z => by rw [z, ec] at hf3; cases hf3
      have k3 : Same H H3 := fun a o ha => by
        refine fe.trans eh a o ?_
        refine s3.f a o ?_
        rw [upd_ne (fun z => by rw [z, np] at ha; cases ha)]
        exact s1.f a o ha
      refine ⟨hp3, [(Sum.inr ("large" : Str), .ref l), (Sum.inr ("cells" : Str), .ref c), (Sum.inr ("rest" : Str), .int 0), (Sum.inr ("turn" : Str), .int 0)], rfl, by show 4 ≤ 15; decide, ?_⟩
      refine hQ _ p l c large (ns.map fun z => (z.natAbs : Int)) { keep := same_upd k3 np, np := np, nl := nl, nc := none_of s1.f nrc, npl := npl, npc := npc, nlc := nlc, ob := ?_, hl := by rw [upd_ne (Ne.symm npl)]; exact hl4, hc := by rw [upd_ne (Ne.symm npc)]; exact hc3, l0 := h0, c0 := fun x hx => ?_ }
      · rw [upd_same]; rfl
      · obtain ⟨z, _, rfl⟩ := List.mem_map.mp hx
        omega
/-- a name gets the object -/
def tBgn (K : PySem.W.Frag) (i j : Nat) : TS := tAsg (tCall (begunSp K) [] E0 (tCons (tVar j) tNil)) (gName i)
theorem ps_bgn {X : Cx} {K : PySem.W.Frag} {st : Stmt} {i j : Nat} (h : PS X st (tAsg (tCall (begunSp K) [] E0 (tCons (tVar j) tNil)) (gName i))) : PS X st (tBgn K i j) := h
def dBgn (K : PySem.W.Frag) (i j : Nat) : DS := fun env E => ∃ ns, env[j]? = some (some (.o (scrO K ns))) ∧ ns.length ≤ 1000 ∧ free env i = true ∧ E.nx (env.set i (some (.o drw)))
instance {K : PySem.W.Frag} {i j : Nat} : AbsS (tBgn K i j) (dBgn K i j) := ⟨fun σ Hs Fr H env D E er sf fh h kn kr kb kc => by
  obtain ⟨ns, hw, hl, hfree, hE⟩ := h
  obtain ⟨fp, r⟩ := er
  obtain ⟨v, hv, _, a, rfl, hS⟩ := r.val hw
  refine ⟨_, hv, a, ns, rfl, sqL_mono (sf.trans fh) hS, hl, fun H' p l c large cells B => ?_⟩
  have fr0 : ∀ b ∈ [c], Fr b = none := fun b hb => by
    have : b = c := by simpa using hb
    subst this; exact none_of fh B.nc
  have hs0 : ∀ b ∈ [c], Hs b = none := fun b hb => none_of sf (fr0 b hb)
  have g : Gr Hs Fr H (both Hs H' [c]) (both Fr H' [c]) H' :=
    ⟨⟨both_same, both_same, fun b h1 h2 => by
      have : b ∉ [c] := fun z => h1 (fr0 b z)
      rw [both_out this]; exact h2⟩, B.keep, both_both sf fr0, both_heap (fh.trans B.keep), fun b h1 h2 => by
      have : b ∉ [c] := fun z => by
        have : b = c := by simpa using z
        subst this; exact h1 B.nc
      rw [both_out this]; exact h2⟩
  have atD : drw.At (both Hs H' [c]) H' (.ref p) [p, l] := by
    refine ⟨large, p, l, c, drwKvs l c, cells, 0, 0, { ev := rfl, ef := rfl, ne := B.npl, hp := B.ob, few := by show 4 ≤ 4; decide, gl := rfl, gc := rfl, gr := rfl, gt := rfl, hl := B.hl, hc := ?_, r0 := by decide, t0 := by decide, l0 := B.l0, c0 := B.c0 }⟩
    exact rp_ints (by rw [both_in (by simp) (hs0 c (by simp))]; exact B.hc)
  have mem2 : ∀ b ∈ [p, l], H b = none ∧ b ∉ [c] := fun b hb => by
    have : b = p ∨ b = l := by simpa using hb
    rcases this with rfl | rfl
    · exact ⟨B.np, by simpa using B.npc⟩
    · exact ⟨B.nl, by simpa using B.nlc⟩
  have r2 := r.gr g
  refine kn _ _ _ _ H' ⟨_, r2.newO i atD (fun b hb => ?_) (fun k e he b hb hm => ?_)⟩ g.st g.sf g.fh (.set _ _ hfree) hE
  · rw [both_out (mem2 b hb).2]; exact none_of fh (mem2 b hb).1
  · obtain ⟨u, h1, h2⟩ := r.at_ k e he
    exact En.known h2 b hb (mem2 b hm).1⟩
theorem st_bgn {K : PySem.W.Frag} {i j : Nat} {env : Env} {E : DEnds} {ns : List Int} (h : env[j]? = some (some (.o (scrO K ns)))) (l : ns.length ≤ 1000) (f : free env i = true) (k : E.nx (env.set i (some (.o drw)))) : dBgn K i j env E := ⟨ns, h, l, f, k⟩
end Lf
set_option Elab.async false
set_option linter.all false
set_option maxRecDepth 100000
set_option maxHeartbeats 4000000
/-! repr of data, where nothing is being told already; a law called by its caller -/
namespace Lf
open PySem PySem.Spec PyProof.Rows L2 RZ
def rRepr (K : PySem.W.Frag) : List V → Hp → VK → Prop := fun xs H Q => ∃ a d, xs = [.ref a] ∧ Dp K H (.ref a) d ∧ d.showable = true ∧ d.hasDict = false ∧ d.depth ≤ 60 ∧ d.shown.length ≤ sizeLine ∧ Q (.str d.shown) H
theorem cl_repr {X : Cx} (hg : X.A.guards = some []) (hu : X.A.units + 64 < cLine) : CallR X (.builtin "repr") (rRepr X.K) := by
  intro pins s σ H xs us Q I r h
  obtain ⟨a, d, rfl, hd, hs, hn, hdp, hz, q⟩ := h
  obtain rfl := Vals.ref1 r
  obtain ⟨as, rd⟩ := Dp.reads I d (.ref a) (.ref a) hd rfl
  exact PySem.repr_of_reads' rd hs (PyData.noDict_hsm hn) hg (by omega) (fun _ _ e => e) (fun h' u tk hk => ⟨.str _, H, I.kept (t' := tk) hk, ⟨_, rfl⟩, q⟩) hz
/-- may be told by repr; b: a bound of its size -/
structure Shw (b : Nat) (d : D) : Prop where
  s : d.toP.showable = true
  n : d.toP.hasDict = false
  l : d.toP.leavesShort 24 = true
  k : d.toP.bulk ≤ b
  d : d.toP.depth ≤ 60
theorem shw_list {b n : Nat} {xs : List D} (h : ∀ x ∈ xs, Shw b x ∧ x.toP.depth ≤ n) : PyData.showableAll (D.toPs xs) = true ∧ PyData.hasDictAll (D.toPs xs) = false ∧ PyData.leavesShortAll 24 (D.toPs xs) = true ∧ PyData.bulkAll (D.toPs xs) ≤ (b + 1) * xs.length ∧ PyData.depthAll (D.toPs xs) ≤ n := by
  induction xs with
  | nil => rw [D.toPs]; exact ⟨rfl, rfl, rfl, Nat.zero_le _, Nat.zero_le _⟩
  | cons x xs ih =>
    obtain ⟨h1, h2, h3, h4, h5⟩ := ih fun y hy => h y (by simp [hy])
    obtain ⟨g, gd⟩ := h x (by simp)
    rw [D.toPs]
    refine ⟨?_, ?_, ?_, ?_, ?_⟩
    · rw [PyData.showableAll, g.s, h1]; rfl
    · rw [PyData.hasDictAll, g.n, h2]; rfl
    · rw [PyData.leavesShortAll, g.l, h3]; rfl
    · have := g.k
      rw [PyData.bulkAll, List.length_cons, Nat.mul_add]; omega
    · rw [PyData.depthAll]
      exact Nat.max_le.mpr ⟨gd, h5⟩
theorem shw_lst {b n : Nat} {xs : List D} (hn : n < 60) (h : ∀ x ∈ xs, Shw b x ∧ x.toP.depth ≤ n) : Shw ((b + 1) * xs.length) (.lst xs) ∧ (D.lst xs).toP.depth ≤ n + 1 := by
  obtain ⟨h1, h2, h3, h4, h5⟩ := shw_list h
  refine ⟨⟨?_, ?_, ?_, ?_, ?_⟩, ?_⟩
  · rw [D.toP, PyData.showable]; exact h1
  · rw [D.toP, PyData.hasDict]; exact h2
  · rw [D.toP, PyData.leavesShort]; exact h3
  · rw [D.toP, PyData.bulk]; exact h4
  · rw [D.toP, PyData.depth]; omega
  · rw [D.toP, PyData.depth]; omega
theorem shw_tup {b n : Nat} {xs : List D} (hn : n < 60) (h : ∀ x ∈ xs, Shw b x ∧ x.toP.depth ≤ n) : Shw ((b + 1) * xs.length) (.tup xs) ∧ (D.tup xs).toP.depth ≤ n + 1 := by
  obtain ⟨h1, h2, h3, h4, h5⟩ := shw_list h
  refine ⟨⟨?_, ?_, ?_, ?_, ?_⟩, ?_⟩
  · rw [D.toP, PyData.showable]; exact h1
  · rw [D.toP, PyData.hasDict]; exact h2
  · rw [D.toP, PyData.leavesShort]; exact h3
  · rw [D.toP, PyData.bulk]; exact h4
  · rw [D.toP, PyData.depth]; omega
  · rw [D.toP, PyData.depth]; omega
theorem shw_int {i : Int} (h : i.natAbs < 10 ^ 20) : Shw 0 (.int i) ∧ (D.int i).toP.depth ≤ 0 := by
  have l : i.natAbs.log2 < 1920 := by
    by_cases z : i.natAbs = 0
    · rw [z]; decide
    · exact (Nat.log2_lt z).mpr (Nat.lt_trans h (Nat.lt_trans (show 10 ^ 20 < 2 ^ 70 by decide) (Nat.pow_lt_pow_right (by decide) (by decide))))
  have t := int_text_length_le10 (a := i) (k := 20) (by decide) h
  have t2 : (Str.ofString (toString i)).length ≤ 24 := by rw [PySem.ofString_length]; omega
  refine ⟨⟨?_, rfl, ?_, Nat.le_refl _, Nat.zero_le _⟩, Nat.le_refl _⟩
  · rw [D.toP, PyData.showable]; exact decide_eq_true l
  · rw [D.toP, PyData.leavesShort, PyData.shown]; exact decide_eq_true t2
theorem Shw.mono {b c : Nat} {d : D} (h : Shw b d) (l : b ≤ c) : Shw c d := ⟨h.s, h.n, h.l, Nat.le_trans h.k l, h.d⟩
def dRepr : DC := fun as C => ∃ xs, as = [.lst xs] ∧ Shw 100000 (.lst xs) ∧ C (.str (D.lst xs).toP.shown)
theorem Shw.size {d : D} (h : Shw 100000 d) : d.toP.shown.length ≤ sizeLine := by
  have h1 := PyData.shown_le_bulk 24 (by decide) d.toP h.l
  have h2 := h.k
  have h3 : (24 + 2) * d.toP.bulk ≤ (24 + 2) * 100000 := Nat.mul_le_mul_left _ h2
  have : sizeLine = 2 ^ 24 := rfl
  omega
instance {K : PySem.W.Frag} : AbsC (rRepr K) dRepr := ⟨fun Hs Fr H xs as Q C sf fh px h k => by
  obtain ⟨ys, rfl, hs, h⟩ := h
  obtain ⟨v, rfl, rv⟩ := px.one
  have dp := (rv.mono (sf.trans fh)).dp (K := K) hs.n
  obtain ⟨a, vs, rfl, _, _⟩ := rv.lst_inv
  exact ⟨a, _, rfl, dp, hs.s, hs.n, hs.d, hs.size, k _ _ Hs Fr H (Gr.refl sf fh) (.str _) h⟩⟩
theorem cv_repr {xs : List D} {C : D → Prop} (s : Shw 100000 (.lst xs)) (h : C (.str (D.lst xs).toP.shown)) : dRepr [.lst xs] C := ⟨xs, rfl, s, h⟩
/-- two texts that are unlike -/
def dNeS : DR2 := fun x y C => ∃ a b : Str, x = .str a ∧ y = .str b ∧ C (.bl (!decide (a = b)))
instance : AbsR rNe dNeS := ⟨fun Hs Fr H x y a b Q C sf fh px py h k => by
  obtain ⟨u, v, rfl, rfl, h⟩ := h
  obtain rfl := px.str_inv
  obtain rfl := py.str_inv
  have e : decide (V.str u = V.str v) = decide (u = v) := by
    rw [decide_eq_decide]
    exact ⟨fun z => by injection z, fun z => by rw [z]⟩
  refine ⟨rfl, ?_⟩
  rw [e]
  exact k _ _ Hs Fr H (Gr.refl sf fh) (.bl _) h⟩
theorem rv_neS {a b : Str} {C : D → Prop} {p : Bool} (e : (!decide (a = b)) = p) (h : C (.bl p)) : dNeS (.str a) (.str b) C := ⟨a, b, rfl, rfl, e ▸ h⟩
/-! ### a law, run where its caller stands -/
/-- a def's body at one place of the stack -/
theorem run_at {P : Program} {w : World} {K : PySem.W.Frag} {mg : Str → Option Value} {base : Heap} {A : Around} {outer : List PySem.Env} {t : Shared} {G : Hp} {k : Nat} {f : Addr} {x qual : Str} {params : Arguments} {body : List Stmt} {scope : Scope} {fd : FuncData} {N ps : List Str} {args : Args} {us : List Value} {vs : List V} {Q : VK} {E : XK}
    (F : FunD K x qual params body scope [] [] f fd) (S : FnScope N ps scope) (room : Room (k + 1) A) (e0 : Env0 P w K mg base A outer t G) (bind : BindsTo t fd args (ps.zip us)) (rel : Vals vs us) (len : vs.length = ps.length)
    (walk : ∀ cdv : Value, Room k (A.deeper (envOfC qual scope t.heap.objs.size f cdv)) → ∃ r, PSs (cxOf CX0 P w K mg base N qual scope f cdv A outer t G E) body r ∧ r { nx := fun _ G' => Q .non G', rt := Q } (start N vs) G) :
    codeAny (model P w) A (.call (.ref f) args) (CR CX0 outer P w G t Q E) t := by
  obtain ⟨oc, od, dV, kV, doc, pm, an, cdv, ct, osl, rfl, look, code, _, _⟩ := F.ex
  have inT : K.In t.heap := e0.mod.kin.keeps fun b o z => (e0.bs b o z).1
  have noLim : t.heap.NoLimit := e0.mod.nolimit.keeps fun b o z => (e0.bs b o z).1
  have kinds : ∀ y ∈ ps.zip us, scope.names.lookup y.1 = some .local ∨ (scope.names.lookup y.1 = some .cell ∧ ((cellsFrom (t.heap.objs.size + 1) scope.names []).lookup y.1).isSome = true) := by
    rintro ⟨nm, u⟩ hy
    exact (S.par nm (List.of_mem_zip hy).1).imp id fun z => ⟨z, PySem.W.cellsFrom_some _ _ _ (.inl z)⟩
  refine codeAny_call_function room.depth (inT _ _ look) rfl S.co S.gen rfl (PySem.W.codeRec_of inT code) (bind _ _ _ _ (wpAny_newFunctionEnv_cells S.kind kinds fun env same t1 laid => ?_))
  subst same
  obtain ⟨r, ps_, pre⟩ := walk cdv (room.deeper _)
  have J0 : Inv (cxOf CX0 P w K mg base N qual scope f cdv A outer t G E) [] (start N vs) G t1 := inv_start S room.hd e0 len rel laid
  refine ⟨noLim.keeps laid.toInCall.keep, codeAny_func (wpAny_mono (ps_.run [] t1 (start N vs) G _ J0 pre) (fun fl t' got => ?_) fun _ _ z => z)⟩
  cases fl with
  | ret u => obtain ⟨v, _, G', J, rv, q⟩ := got; exact ⟨v, G', J.os, J.bare, J.base, J.hok, rv, q⟩
  | next => obtain ⟨_, G', J, q⟩ := got; exact ⟨.non, G', J.os, J.bare, J.base, J.hok, rfl, q⟩
  | brk => exact got.elim fun _ z => z.elim fun _ z => z.2.elim
  | cont => exact got.elim fun _ z => z.elim fun _ z => z.2.elim
/-- what the caller may say of the heap: the script alone is tracked -/
structure Begin (P : Program) (w : World) (K : PySem.W.Frag) (t : Shared) (a : Addr) (ns : List Int) (G : Hp) : Prop where
  only : Only G
  at_ : SqL K G a (ns.map V.int)
  hok : HOk P w G t.heap
  self : ∀ b, G b ≠ none → b = a
  unk : G a ≠ none → K.lookup a = none
theorem begin_ {P : Program} {w : World} {K : PySem.W.Frag} {t : Shared} {a : Addr} {its : List Value} {ns : List Int} (inT : K.In t.heap) (ha : t.heap.get? a = some { cls := .type "list", data := .seq its.toArray }) (hi : IntsAre its ns) (hl : ns.length ≤ sizeLine) : ∃ G, Begin P w K t a ns G := by
  have rv := vals_ints hi
  have len := hi.length
  by_cases q : K.lookup a = none
  · refine ⟨fun b => if b = a then some (.frz { cls := .type "list", data := .seq its.toArray } (.lst (ns.map V.int))) else none, ⟨fun b => ?_, .inl (.inr ⟨_, if_pos rfl⟩), fun b u z => ?_, fun b z => ?_, fun _ => q⟩⟩
    · by_cases e : b = a
      · exact .inr ⟨_, _, if_pos e⟩
      · exact .inl (if_neg e)
    · by_cases e : b = a
      · subst e
        cases (if_pos rfl).symm.trans z
        exact ⟨ha, by rw [List.length_map]; exact hl, its, _, rv, ha⟩
      · cases (if_neg e).symm.trans z
    · exact Classical.byContradiction fun e => z (if_neg e)
  · cases e : K.lookup a with
    | none => exact absurd e q
    | some o =>
      have := inT a o e
      rw [ha] at this
      cases this
      refine ⟨fun _ => none, ⟨fun _ => .inl rfl, .inr ⟨_, its.toArray, _, e, rfl, rfl, rfl, by rw [List.size_toArray, len]; exact hl, by simpa using rv⟩, fun b u z => (nomatch z), fun b z => absurd rfl z, fun z => absurd rfl z⟩⟩
theorem law_at {P : Program} {w : World} {K : PySem.W.Frag} {mg mb : Str → Option Value} {f a : Addr} {t : Shared} {its : List Value} {ns : List Int}
    (inT : K.In t.heap) (hns : t.heap.Ns mainGlobals mg) (hb : t.heap.Ns builtinsNs mb) (hbb : ∀ x : Str, x ≠ "__name__" → mb x = bootBuiltins x) (lim : t.heap.NoLimit) (gens : t.gens = #[])
    (ha : t.heap.get? a = some { cls := .type "list", data := .seq its.toArray }) (hi : IntsAre its ns) (hl : ns.length ≤ sizeLine)
    (run : ∀ (base : Heap) (G : Hp), K.In base → base.Ns mainGlobals mg → Env0 P w K mg base callerA [] t G → SqL K G a (ns.map V.int) → codeAny (model P w) callerA (.call (.ref f) ⟨[.ref a], []⟩) (CR CX0 [] P w G t (fun v _ => v = .bl true) fun _ _ _ => False) t) :
    codeAny (model P w) callerA (.call (.ref f) ⟨[.ref a], []⟩) (fun r t' => r = .ok (.ret (.bool true)) ∧ OldK t.heap t'.heap ∧ t'.os = t.os ∧ AllBare t'.gens) t := by
  obtain ⟨G, B⟩ := begin_ (P := P) (w := w) inT ha hi hl
  have hid : ∀ {b : Addr} {o : Obj}, t.heap.get? b = some o → G b = none → (hidT t.heap G).get? b = some o := fun e n => hidT_get e n
  have other : ∀ {b : Addr} {o : Obj} {es : Array DictEntry} {n : Nat}, t.heap.get? b = some o → o.data = .dict es n → G b = none := by
    intro b o es n e d
    refine Classical.byContradiction fun z => ?_
    have q := B.self b z
    subst q
    rw [ha] at e
    cases e
    cases show Data.seq its.toArray _ = Data.dict es n from d
  have ns_ : ∀ {b : Addr} {m : Str → Option Value}, t.heap.Ns b m → (hidT t.heap G).Ns b m := fun {b m} ⟨o, es, n, e, d, r⟩ => ⟨o, es, n, hid e (other e d), d, r⟩
  have kb : K.In (hidT t.heap G) := fun b o e => hid (inT b o e) (Classical.byContradiction fun z => by
    have q := B.self b z
    subst q
    rw [B.unk z] at e; cases e)
  have env : Env0 P w K mg (hidT t.heap G) callerA [] t G :=
    ⟨rfl, ⟨kb, ns_ hns, ⟨mb, ns_ hb, hbb⟩, lim.elim fun mc z => ⟨mc, ns_ z.1, z.2⟩⟩, fun b o e => of_hidT e, Nat.le_of_eq (hidT_size _ _), trivial, fun b hb => absurd (show b ∈ ([] : List Addr) from hb) (by simp), B.hok, .of_eq gens⟩
  refine codeAny_mono (run _ G kb (ns_ hns) env B.at_) fun r t' got => ?_
  match r, got with
  | .ok (.ret u), ⟨v, G', os, bare, un, hok', rv, q⟩ =>
    have q : v = .bl true := q
    subst q
    obtain rfl : u = Value.bool true := rv
    refine ⟨rfl, OldK.of_keep fun b o e => ?_, os, bare⟩
    by_cases z : G b = none
    · exact un.keep b o e z (fun y => absurd (show b ∈ ([] : List Addr) from y) (by simp)) (by simp)
    · rcases B.only b with y | ⟨ob, xs, y⟩
      · exact absurd y z
      · obtain ⟨e1, _⟩ := B.hok b _ y
        obtain ⟨e2, _⟩ := hok' b _ (un.frzs b ob _ y)
        rw [e] at e1; cases e1
        exact e2
/-- the end of a law, by what its def does where its caller stands -/
theorem walk_at {l : PySem.W.OpenLaw} {n : Nat} {q : Program} {loose : List Str} {XP : (Str → Option Value) → Heap → Prop} {YP : World → Heap → Prop} {d : DefRec} (hn : l.most = some n) (hn2 : n ≤ sizeLine) (hdf : d.params.defaults = [])
    (F : ∀ (w : World) (mg : Str → Option Value) (f : Addr) (h : Heap), YP w h → h.Ns mainGlobals mg → mg d.name = some (.ref f) → ∃ K : PySem.W.Frag, K.In h ∧ ∀ (base : Heap) (t : Shared) (G : Hp) (a : Addr) (ns : List Int), K.In base → base.Ns mainGlobals mg → ns.length ≤ n →
      Env0 l.prog w K mg base callerA [] t G → SqL K G a (ns.map V.int) → codeAny (model l.prog w) callerA (.call (.ref f) ⟨[.ref a], []⟩) (CR CX0 [] l.prog w G t (fun v _ => v = .bl true) fun _ _ _ => False) t) :
    PySem.W.WalkO q loose XP YP l.row.toRowW d [] (fun f vs => PySem.call f vs) :=
  Att.attach_call hn hdf fun w _ t mg mb f _ _ _ _ a _ ns g Y _ _ _ hm hobj hints len gens => by
    obtain ⟨K, inT, run⟩ := F w mg f _ Y g.T.g hm
    exact law_at inT g.T.g g.T.b g.T.builtins g.T.nolimit gens hobj hints (Nat.le_trans len hn2) fun base G kb nb e0 hs => run base t G a ns kb nb len e0 hs
end Lf
/-! x in a list, x not in a list; strings. -/
set_option linter.unusedVariables false
set_option maxRecDepth 100000
namespace Lf
open PySem PySem.Spec PyProof.Rows L2
def dIn : DR2 := fun x y C => ∃ xs, y = .lst xs ∧ shp x ∧ shp y ∧ C (.bl (xs.any fun z => dEq z x))
def dNin : DR2 := fun x y C => ∃ xs, y = .lst xs ∧ shp x ∧ shp y ∧ C (.bl (!xs.any fun z => dEq z x))
theorem any_toPs (f : PyData → Bool) (xs : List D) : (D.toPs xs).any f = xs.any fun z => f z.toP := by
  rw [D.toPs_eq, List.any_map]; rfl
instance {K : PySem.W.Frag} : AbsR (rInD K) dIn := ⟨fun Hs Fr H x y a b Q C sf fh px py h k => by
  obtain ⟨xs, rfl, h1, h2, h⟩ := h
  have p := (py.mono (sf.trans fh)).dp (K := K) h2.pln
  rw [D.toP] at p
  unfold Lf.shp at h2
  rw [D.toP] at h2
  refine ⟨a.toP, D.toPs xs, (px.mono (sf.trans fh)).dp h1.pln, p, h1, h2, k _ _ Hs Fr H (Gr.refl sf fh) (.bl _) ?_⟩
  rw [any_toPs]; exact h⟩
instance {K : PySem.W.Frag} : AbsR (rNotInD K) dNin := ⟨fun Hs Fr H x y a b Q C sf fh px py h k => by
  obtain ⟨xs, rfl, h1, h2, h⟩ := h
  have p := (py.mono (sf.trans fh)).dp (K := K) h2.pln
  rw [D.toP] at p
  unfold Lf.shp at h2
  rw [D.toP] at h2
  refine ⟨a.toP, D.toPs xs, (px.mono (sf.trans fh)).dp h1.pln, p, h1, h2, k _ _ Hs Fr H (Gr.refl sf fh) (.bl _) ?_⟩
  rw [any_toPs]; exact h⟩
theorem flat_str {x : Str} (h : PyData.strOk x = true) : flat 0 (.str x) := ⟨by simp [D.toP, PyData.canLay0, h], by simp [D.toP, PyData.depth]⟩
theorem dEq_str (x y : Str) : dEq (.str x) (.str y) = decide (x = y) := by
  simp only [dEq, D.toP, PyData.eqv]
  by_cases h : x = y <;> simp [h]
theorem room65 {k : Nat} {A : Around} (r : Room k A) : A.units + 65 < cLine := by have := r.un; omega
end Lf
set_option Elab.async false
set_option linter.all false
set_option maxRecDepth 100000
set_option maxHeartbeats 4000000
/-! sorted(list), sorted(set(list)), <, of data -/
namespace Lf
open PySem PySem.Spec PyProof.Rows L2 RZ
open PySem.W (dataLe AllAlike Sortable EachIs alike dataLt lt_data sorted_data)
abbrev leD (a b : D) : Bool := dataLe false D.toP a b
/-- may be sorted -/
structure Srt (xs : List D) : Prop where
  al : AllAlike (xs.map D.toP)
  so : Sortable (xs.map D.toP)
  dp : ∀ x ∈ xs, x.toP.depth ≤ 32
def rSortD (K : PySem.W.Frag) : List V → Hp → VK → Prop := fun vs H Q => ∃ (a : Addr) (bs : List (V × D)), vs = [V.ref a] ∧ SqL K H a (bs.map (·.1)) ∧ (∀ b ∈ bs, Rp H b.1 b.2) ∧ Srt (bs.map (·.2)) ∧
  ∀ p, H p = none → Q (.ref p) (upd H p (.lst ((bs.mergeSort (dataLe false fun b => b.2.toP)).map (·.1))))
theorem each_vals : ∀ {bs : List (V × D)} {us : List Value}, Vals (bs.map (·.1)) us → EachIs (fun u (b : V × D) => RelV b.1 u) us bs
  | [], [], _ => .nil
  | [], _ :: _, h => nomatch h
  | _ :: _, [], h => nomatch h
  | b :: bs, u :: us, h => by
    cases h with
    | cons h1 h2 => exact .cons h1 (each_vals h2)
theorem vals_each : ∀ {bs : List (V × D)} {us : List Value}, EachIs (fun u (b : V × D) => RelV b.1 u) us bs → Vals (bs.map (·.1)) us
  | [], [], _ => .nil
  | [], _ :: _, h => nomatch h
  | _ :: _, [], h => nomatch h
  | b :: bs, u :: us, h => by
    cases h with
    | cons h1 h2 => exact .cons h1 (vals_each h2)
mutual
theorem alike_noDict : ∀ d : PyData, alike d d = true → d.hasDict = false
  | .none, _ => by simp only [PyData.hasDict]
  | .bool _, _ => by simp only [PyData.hasDict]
  | .int _, _ => by simp only [PyData.hasDict]
  | .str _, _ => by simp only [PyData.hasDict]
  | .list xs, h => by
    rw [alike] at h
    rw [PyData.hasDict]
    exact alike_noDictAll xs h
  | .tuple xs, h => by
    rw [alike] at h
    rw [PyData.hasDict]
    exact alike_noDictAll xs h
  | .dict _, h => by simp [alike] at h
theorem alike_noDictAll : ∀ xs : List PyData, PySem.W.alikeAll xs xs = true → PyData.hasDictAll xs = false
  | [], _ => by simp only [PyData.hasDictAll]
  | x :: xs, h => by
    rw [PySem.W.alikeAll, Bool.and_eq_true] at h
    rw [PyData.hasDictAll, alike_noDict x h.1, alike_noDictAll xs h.2]
    rfl
end
theorem Srt.pln {xs : List D} (s : Srt xs) : ∀ x ∈ xs, x.pln := fun x hx => alike_noDict _ (s.al _ (List.mem_map_of_mem hx) _ (List.mem_map_of_mem hx))
theorem each_reads {X : Cx} {pins : List (Addr × Obj)} {σ : L2.St} {H : Hp} {s : Shared} (I : Inv X pins σ H s) : ∀ {bs : List (V × D)} {us : List Value}, EachIs (fun u (b : V × D) => RelV b.1 u) us bs → (∀ b ∈ bs, Rp H b.1 b.2 ∧ b.2.pln) → EachIs (fun u (b : V × D) => ∃ as, Reads s.heap u b.2.toP as) us bs
  | [], [], _, _ => .nil
  | [], _ :: _, h, _ => nomatch h
  | _ :: _, [], h, _ => nomatch h
  | b :: bs, u :: us, h, hr => by
    cases h with
    | cons h1 h2 =>
      have := (hr b (by simp)).1.dp (K := X.K) (hr b (by simp)).2
      exact .cons (Dp.reads I _ _ _ this h1) (each_reads I h2 fun c hc => hr c (by simp [hc]))
theorem cr_sortD {X : Cx} (hu : X.A.units + 64 < cLine) : CallR X (.builtin "sorted") (rSortD X.K) := by
  intro pins s σ H vs us Q I r h
  obtain ⟨a, bs, rfl, hs, hr, ok, q⟩ := h
  obtain ⟨its, rv, hl, hz⟩ := I.list hs
  rw [Vals.ref1 r]
  have e := each_vals rv
  have al : AllAlike (bs.map fun b => b.2.toP) := by have := ok.al; rw [List.map_map] at this; exact this
  have so : Sortable (bs.map fun b => b.2.toP) := by have := ok.so; rw [List.map_map] at this; exact this
  refine sorted_data (enc := fun b : V × D => b.2.toP) (bs := bs) hl.isList e (each_reads I e fun b hb => ⟨hr b hb, ok.pln _ (List.mem_map_of_mem hb)⟩) al so (by simpa using hz) (fun b hb => ?_) fun out h1 h2 => ?_
  · have := ok.dp b.2 (List.mem_map_of_mem hb)
    omega
  · obtain ⟨ep, he'⟩ := PyProof.Rows.sortedAll_at s.heap its out.toArray
    have hv := vals_each h2
    have hlen : ((bs.mergeSort (dataLe false fun b => b.2.toP)).map (·.1)).length ≤ sizeLine := by rw [List.length_map, List.length_mergeSort]; simpa using hz
    exact ⟨.ref _, upd H (s.heap.objs.size + 1) (.lst ((bs.mergeSort (dataLe false fun b => b.2.toP)).map (·.1))), I.laid (t' := s.toks) (fun _ _ => PyProof.Rows.sortedAll_old) (Nat.le_succ _) ⟨hlen, out, ep, hv, by simpa using he'⟩, rfl, q _ (I.hok.fresh (Nat.le_succ _))⟩
def dSortD : DC := fun as C => ∃ xs, as = [.lst xs] ∧ Srt xs ∧ C (.lst (xs.mergeSort leD))
theorem zip_fst {vs : List V} {ds : List D} (h : vs.length = ds.length) : (vs.zip ds).map (·.1) = vs := by
  rw [List.map_fst_zip (by omega)]
theorem zip_snd {vs : List V} {ds : List D} (h : vs.length = ds.length) : (vs.zip ds).map (·.2) = ds := by
  rw [List.map_snd_zip (by omega)]
theorem zip_rp {H : Hp} {vs : List V} {ds : List D} (r : RpA H vs ds) : ∀ b ∈ vs.zip ds, Rp H b.1 b.2 := fun b hb => by
  obtain ⟨i, hi⟩ := List.mem_iff_getElem?.mp hb
  rw [List.getElem?_zip_eq_some] at hi
  exact r.2 i _ _ hi.1 hi.2
theorem rpA_pairs {H : Hp} {bs : List (V × D)} (h : ∀ b ∈ bs, Rp H b.1 b.2) : RpA H (bs.map (·.1)) (bs.map (·.2)) := by
  refine ⟨by simp, fun i v d h1 h2 => ?_⟩
  rw [List.getElem?_map] at h1 h2
  cases q : bs[i]? with
  | none => rw [q] at h1; cases h1
  | some b =>
    rw [q] at h1 h2
    cases h1
    cases h2
    exact h b (List.mem_of_getElem? q)
instance {K : PySem.W.Frag} : AbsC (rSortD K) dSortD := ⟨fun Hs Fr H xs as Q C sf fh px h k => by
  obtain ⟨ys, rfl, ok, h⟩ := h
  obtain ⟨v, rfl, rv⟩ := px.one
  obtain ⟨a, vs, rfl, ha, ra⟩ := rv.lst_inv
  have z1 := zip_fst ra.1
  have z2 := zip_snd ra.1
  have zr := zip_rp ra
  have s2 := sf.trans fh
  refine ⟨a, vs.zip ys, rfl, by rw [z1]; exact SqL.of (s2 _ _ ha), fun b hb => (zr b hb).mono s2, by rw [z2]; exact ok, fun p hp => ?_⟩
  have g := Gr.new sf fh hp (.lst (((vs.zip ys).mergeSort (dataLe false fun b => b.2.toP)).map (·.1)))
  have em : ((vs.zip ys).mergeSort (dataLe false fun b => b.2.toP)).map (·.2) = ys.mergeSort leD := by
    have := List.map_mergeSort (r := dataLe false fun b : V × D => b.2.toP) (s := leD) (f := Prod.snd) (l := vs.zip ys) (fun a _ b _ => rfl)
    rw [z2] at this
    exact this
  refine k _ _ _ _ _ g (.lstA upd_same ?_) h
  rw [← em]
  exact (rpA_pairs fun b hb => zr b (List.mem_mergeSort.mp hb)).mono g.st.s⟩
/-- < -/
def rLtD (K : PySem.W.Frag) : R2 := fun x y H Q => ∃ d e, Dp K H x d ∧ Dp K H y e ∧ alike d e = true ∧ d ≠ .none ∧ d.depth ≤ 32 ∧ Q (.bl (dataLt d e)) H
theorem op_ltD {X : Cx} (hu : X.A.units + 64 < cLine) : OpR X (compareOp .Lt) (rLtD X.K) := by
  intro pins s σ H x y v u Q I rx ry h
  obtain ⟨d, e, hd, he, al, ne, dp, q⟩ := h
  obtain ⟨as, r1⟩ := Dp.reads I d x v hd rx
  obtain ⟨bs, r2⟩ := Dp.reads I e y u he ry
  exact lt_data r1 r2 al ne (by omega) ⟨.bl _, H, I, rfl, q⟩
def dLtD : DR2 := fun x y C => x.pln ∧ y.pln ∧ alike x.toP y.toP = true ∧ x.toP ≠ .none ∧ x.toP.depth ≤ 32 ∧ C (.bl (dataLt x.toP y.toP))
instance {K : PySem.W.Frag} : AbsR (rLtD K) dLtD := ⟨fun Hs Fr H x y a b Q C sf fh px py h k => by
  obtain ⟨n1, n2, h1, h2, h3, h⟩ := h
  exact ⟨a.toP, b.toP, (px.mono (sf.trans fh)).dp n1, (py.mono (sf.trans fh)).dp n2, h1, h2, h3, k _ _ Hs Fr H (Gr.refl sf fh) (.bl _) h⟩⟩
end Lf
namespace Lf
open PySem PySem.Spec PyProof.Rows L2 RZ PySem.Calls PyProof.V
open PySem.W (dataLe AllAlike Sortable EachIs alike dataLt lt_data sorted_data list_sort_data)
/-! a set of rows of ints, sorted -/
abbrev rowP (q : Addr × List Int) : PyData := .tuple (q.2.map .int)
section
variable {P : Program} {w : World} {A : Around} {E : Value → Shared → Prop} {s : Shared}
theorem sorted_setD {a : Addr} {L : List (Addr × List Int)} {es : Array (Int × Value)} {ep : Nat} {t : SetTable} {Q : Value → Shared → Prop} (R : SetTR P w s.heap a L es ep t) (hh : A.handled = none)
    {d : Nat} (hd1 : 1 ≤ d) (hB : ∀ p ∈ L, p.2.length = d) (hu : A.units + 64 < cLine)
    (hQ : ∀ s' p (out : Array Value) (c : Nat) (L' : List (Addr × List Int)), (∀ b o, s.heap.get? b = some o → s'.heap.get? b = some o) → s'.gens = s.gens → s'.os = s.os → s.heap.objs.size ≤ p →
      s'.heap.get? p = some (seqObj "list" out c) → out.toList = L'.map (fun q => Value.ref q.1) → (∃ L1 : List (Addr × List Int), L1.Perm L ∧ L' = L1.mergeSort (dataLe false rowP)) → Q (.ref p) s') :
    wpAny (model P w) A (call (.builtin "sorted") [.ref a]) Q E s := by
  obtain ⟨o, ho, hex, hd⟩ := R.ob
  have hsz := R.size
  have hfew := R.few
  refine Calls.call_function_entry kind_sorted plain_sorted entry_sorted (args_sorted1 _) ?_
  unfold Builtin.«sorted»
  refine wpAny_bind (m := checkCount "sorted" 1 1 _) (wpAny_pure ?_)
  refine wpAny_bind (collect_set (A := A.in1) hh ⟨o, ho, hex.1, hd⟩ R.fits (by unfold scanBound; omega) R.tab.ris R.led fun s1 vs k1 hz g1 o1 pm => ?_)
  have hes : es.toList.map (·.2) = L.map fun q => Value.ref q.1 := by
    rw [R.rows]
    unfold rowsOf
    rw [List.map_map] <;> rfl
  rw [hes] at pm
  have ord : ∀ vs : List Value, (∀ v ∈ vs, ∃ q ∈ L, v = Value.ref q.1) → ∃ L1 : List (Addr × List Int), vs = L1.map (fun q => Value.ref q.1) ∧ ∀ q ∈ L1, q ∈ L := by
    intro vs
    induction vs with
    | nil => intro _; exact ⟨[], rfl, fun q hq => (by cases hq)⟩
    | cons v vs ih =>
      intro hv
      obtain ⟨q, hq, e⟩ := hv v List.mem_cons_self
      obtain ⟨L1, e1, hs⟩ := ih fun u hu => hv u (List.mem_cons_of_mem _ hu)
      refine ⟨q :: L1, by rw [List.map_cons, e, e1], fun r hr => ?_⟩
      rcases List.mem_cons.mp hr with z | z
      · rw [z]; exact hq
      · exact hs r z
  have one : ∀ q ∈ L, ∀ r ∈ L, q.1 = r.1 → q = r := fun q hq r hr e => by
    have a1 := R.tup q hq
    have a2 := R.tup r hr
    rw [e] at a1
    have e2 : q.2 = r.2 := a1.inj a2
    exact Prod.ext e e2
  have perm_of : ∀ L1 : List (Addr × List Int), (∀ q ∈ L1, q ∈ L) → (L1.map (fun q => Value.ref q.1)).Perm (L.map fun q => Value.ref q.1) → L1.Perm L := by
    intro L1 hs pm1
    have nL : L.Nodup := nodup_of_map R.nd
    have nref : (L.map fun q => Value.ref q.1).Nodup := by
      refine List.pairwise_map.mpr (List.Pairwise.imp_of_mem (fun {q r} hq hr hne e => ?_) nL)
      injection e with e
      exact hne (one q hq r hr e)
    have n1 : L1.Nodup := nodup_of_map (pm1.nodup_iff.mpr nref)
    refine (List.perm_ext_iff_of_nodup n1 nL).mpr fun q => ⟨hs q, fun hq => ?_⟩
    have hm : Value.ref q.1 ∈ L1.map (fun q => Value.ref q.1) := pm1.mem_iff.mpr (List.mem_map.mpr ⟨q, hq, rfl⟩)
    obtain ⟨r, hr, e⟩ := List.mem_map.mp hm
    injection e with e
    rw [← one r (hs r hr) q hq e]
    exact hr
  have hvl : vs.length < 64 := by rw [pm.length_eq, List.length_map]; exact hfew
  refine wpAny_bind (wpAny_newList ?_ (by rw [sizeLine_eq]; omega))
  have hoL : (s1.heap.push (seqObj "list" vs.toArray 0)).get? s1.heap.objs.size = some (seqObj "list" vs.toArray 0) := Heap.get?_push_size _ rfl
  obtain ⟨L1, e1, hs1⟩ := ord vs fun v hv => by
    obtain ⟨q, hq, e⟩ := List.mem_map.mp (pm.mem_iff.mp hv)
    exact ⟨q, hq, e.symm⟩
  have pL : L1.Perm L := perm_of L1 hs1 (by rw [← e1]; exact pm)
  have rd : ∀ q ∈ L, ∃ as, Reads (s1.heap.push (seqObj "list" vs.toArray 0)) (.ref q.1) (rowP q) as ∧ s1.heap.objs.size ∉ as := fun q hq => by
    obtain ⟨o', items, n', ho', hc', hd', hi'⟩ := R.tup q hq
    have h2 : (s1.heap.push (seqObj "list" vs.toArray 0)).get? q.1 = some o' := Heap.get?_push_of_some _ (k1 _ _ ho')
    have lt : q.1 < s1.heap.objs.size := Heap.lt_size (k1 _ _ ho')
    exact ⟨_, Reads.tuple h2 hc' hd' ((ints_of_items hi').reads _), by simp⟩
  have er : ∀ (L1 : List (Addr × List Int)), (∀ q ∈ L1, q ∈ L) → EachIs (fun v (q : Addr × List Int) => ∃ as, Reads (s1.heap.push (seqObj "list" vs.toArray 0)) v (rowP q) as ∧ s1.heap.objs.size ∉ as) (L1.map fun q => Value.ref q.1) L1 := by
    intro L1
    induction L1 with
    | nil => exact fun _ => .nil
    | cons q L1 ih => exact fun h => .cons (rd q (h q (by simp))) (ih fun r hr => h r (by simp [hr]))
  have ee : ∀ (L1 : List (Addr × List Int)), EachIs (fun v (q : Addr × List Int) => v = Value.ref q.1) (L1.map fun q => Value.ref q.1) L1 := by
    intro L1
    induction L1 with
    | nil => exact .nil
    | cons q L1 ih => exact .cons rfl ih
  have back : ∀ (out : List Value) (L2 : List (Addr × List Int)), EachIs (fun v (q : Addr × List Int) => v = Value.ref q.1) out L2 → out = L2.map fun q => Value.ref q.1 := by
    intro out
    induction out with
    | nil => intro L2 h; cases h; rfl
    | cons v out ih =>
      intro L2 h
      cases h with
      | cons h1 h2 => rw [h1, ih _ h2]; rfl
  have al : AllAlike (L1.map rowP) := fun x hx y hy => by
    obtain ⟨q, hq, rfl⟩ := List.mem_map.mp hx
    obtain ⟨r, hr, rfl⟩ := List.mem_map.mp hy
    unfold rowP
    rw [PySem.W.alike]
    exact PySem.W.alike_ints _ _
  have so : Sortable (L1.map rowP) := .inl fun x hx => by
    obtain ⟨q, hq, rfl⟩ := List.mem_map.mp hx
    have l := hB q (hs1 q hq)
    cases h : q.2 with
    | nil => rw [h] at l; simp at l; omega
    | cons y r => exact ⟨_, _, by show PyData.tuple (q.2.map .int) = _; rw [h]; rfl⟩
  have e0 : ((vs : List Value)) = L1.map fun q => Value.ref q.1 := e1
  refine wpAny_bind (wpAny_holding (list_sort_data (enc := rowP) (bs := L1) (R := fun v (q : Addr × List Int) => v = Value.ref q.1) (s := { s1 with heap := s1.heap.push (seqObj "list" vs.toArray 0) }) hoL (by rw [e0]; exact ee L1) (by rw [show vs = L1.map (fun q => Value.ref q.1) from e0] at er ⊢; exact er L1 hs1) al so (by rw [pL.length_eq, sizeLine_eq]; omega) (fun q _ => ?_) fun out a1 a2 => ?_))
  · have : (rowP q).depth ≤ 1 := by
      show PyData.depth (.tuple (q.2.map .int)) ≤ 1
      rw [PyData.depth, PySem.W.depth_ints]; exact Nat.le_refl _
    show A.in1.units + 1 + (rowP q).depth < cLine
    have : A.in1.units ≤ A.units + 1 := Nat.le_refl _
    omega
  obtain ⟨c, hc⟩ := sortedHeap_at (vs := vs) (out := out.toArray) hoL
  refine wpAny_pure ⟨_, rfl, hQ _ s1.heap.objs.size out.toArray c _ (fun b u e => ?_) g1 o1 hz hc (by simpa using back _ _ a2) ⟨L1, pL, rfl⟩⟩
  have q := k1 b u e
  have hlt := Heap.lt_size q
  show (sortedHeap (s1.heap.push (seqObj "list" vs.toArray 0)) s1.heap.objs.size vs out.toArray).get? b = some u
  rw [sortedHeap_old (Nat.ne_of_lt hlt) (by rw [size_push']; exact Nat.lt_succ_of_lt hlt)]
  exact Heap.get?_push_of_some _ q
end
end Lf
set_option Elab.async false
set_option linter.all false
set_option maxRecDepth 100000
set_option maxHeartbeats 4000000
/-! sorted(set(rows)) -/
namespace Lf
open PySem PySem.Spec PyProof.Rows L2 RZ
open PySem.W (dataLe AllAlike Sortable EachIs alike dataLt lt_data sorted_data list_sort_data)
abbrev leR (a b : List Int) : Bool := dataLe false (fun l : List Int => PyData.tuple (l.map .int)) a b
def rSortS (K : PySem.W.Frag) (P : Program) (w : World) : List V → Hp → VK → Prop := fun vs H Q => ∃ (a : Addr) (L : List (Addr × List Int)) (d : Nat), vs = [V.ref a] ∧ H a = some (SetTO P w a L) ∧ (∀ p ∈ L, SqT K H p.1 (p.2.map V.int)) ∧ 1 ≤ d ∧ (∀ p ∈ L, p.2.length = d) ∧
  ∀ (L' : List (Addr × List Int)) (p : Addr), L'.Perm L → (L'.map (·.2)).Nodup → L'.length < 64 → L'.Pairwise (fun q r => leR q.2 r.2 = true) → H p = none → Q (.ref p) (upd H p (.lst (L'.map fun q => V.ref q.1)))
theorem leR_eq (a b : List Int) : leR a b = decide (a ≤ b) := by
  have h := congrFun (congrFun (PySem.W.dataLe_rows (fun l : List Int => l)) a) b
  rw [← h]
  unfold leR
  rw [PySem.W.dataLe_eq, PySem.W.dataLe_eq]
  simp only [cond_false]
  rw [PySem.W.dataLt_tuple, PySem.W.dataLt_list]
theorem leR_total : PySem.W.TotalLe (fun q r : Addr × List Int => leR q.2 r.2) := by
  have e : (fun q r : Addr × List Int => leR q.2 r.2) = fun q r => decide (q.2 ≤ r.2) := by
    funext q r
    exact leR_eq _ _
  rw [e]
  refine ⟨fun a b c h1 h2 => decide_eq_true (List.le_trans (of_decide_eq_true h1) (of_decide_eq_true h2)), fun a b => ?_⟩
  rcases List.le_total a.2 b.2 with h | h
  · exact .inl (decide_eq_true h)
  · exact .inr (decide_eq_true h)
theorem cr_sortS {X : Cx} (hc : X.calm = true) (hu : X.A.units + 64 < cLine) : CallR X (.builtin "sorted") (rSortS X.K X.prog X.w) := by
  intro pins s σ H vs us Q I r h
  obtain ⟨a, L, d, rfl, ha, hk, hd, hB, q⟩ := h
  have R0 : SetT0 X.prog X.w s.heap a L := (I.hok a _ ha).1
  obtain ⟨es, ep, t, R⟩ := R0.full fun p hp => I.isT (hk p hp)
  rw [Vals.ref1 r]
  refine sorted_setD R (I.ok.hd hc) hd hB hu fun s' p out c L' k g o hp hg hout ⟨L1, pm1, eL⟩ => ?_
  have pm : L'.Perm L := by rw [eL]; exact (List.mergeSort_perm _ _).trans pm1
  have pw : L'.Pairwise (fun q r => leR q.2 r.2 = true) := by
    rw [eL]
    exact PySem.W.sort_pairwise leR_total L1
  have hfew : L'.length < 64 := by rw [pm.length_eq]; exact R.few
  have hlen : (L'.map fun q => V.ref q.1).length ≤ sizeLine := by rw [List.length_map, sizeLine_eq]; omega
  have hn : H p = none := I.hok.fresh hp
  have hv : Vals (L'.map fun q => V.ref q.1) out.toList := by rw [hout]; exact vals_of_refs L'
  have J : Inv X pins σ (upd H p (.lst (L'.map fun q => V.ref q.1))) { s with heap := s'.heap, gens := s'.gens, drawn := s'.drawn, toks := s'.toks } :=
    I.call (ch := []) (Un.laid k hp hn) (I.hok.laid k hp ⟨hlen, out.toList, c, hv, hg⟩) (by rw [g]; exact I.bare) (fun _ z => nomatch z)
  have e : s' = { s with heap := s'.heap, gens := s'.gens, drawn := s'.drawn, toks := s'.toks } := by
    cases s'
    cases s
    cases o
    rfl
  rw [e]
  exact ⟨.ref p, _, J, rfl, q L' p pm ((pm.map (·.2)).nodup_iff.mpr R.nd) hfew pw hn⟩
theorem rp_row {H : Hp} {l : Addr} {ns : List Int} (h : H l = some (.tup (ns.map V.int))) : Rp H (.ref l) (rowD ns) := .tup h (by simp) fun i v d h1 h2 => by
  rw [List.getElem?_map] at h1 h2
  cases q : ns[i]? with
  | none => rw [q] at h1; cases h1
  | some x => rw [q] at h1 h2; cases h1; cases h2; exact .int x
/-- the rows that references stand for -/
theorem rows_refs {H : Hp} : ∀ {vs : List V} {rows : List (List Int)}, RpA H vs (rows.map rowD) → ∃ ks : List (Addr × List Int), vs = ks.map (fun p => V.ref p.1) ∧ rows = ks.map (·.2) ∧ ∀ p ∈ ks, H p.1 = some (.tup (p.2.map V.int))
  | [], [], _ => ⟨[], rfl, rfl, fun p hp => by simp at hp⟩
  | [], _ :: _, h => by have := h.1; simp at this
  | _ :: _, [], h => by have := h.1; simp at this
  | v :: vs, r :: rows, h => by
    have h0 := h.2 0 v (rowD r) rfl rfl
    obtain ⟨a, us, rfl, ha, ra⟩ := h0.tup_inv
    have ev := ints_of ra
    subst ev
    obtain ⟨ks, e1, e2, hk⟩ := rows_refs (vs := vs) (rows := rows) ⟨by simpa using h.1, fun i w d h1 h2 => h.2 (i + 1) w d (by simpa using h1) (by simpa using h2)⟩
    exact ⟨(a, r) :: ks, by rw [e1]; rfl, by rw [e2]; rfl, fun p hp => by
      rcases List.mem_cons.mp hp with rfl | hp
      · exact ha
      · exact hk p hp⟩
def dSortSet (da : DE) : DE := fun env C => da env fun x env1 => ∃ (rows : List (List Int)) (d : Nat), x = .lst (rows.map rowD) ∧ rows.length < 64 ∧ 1 ≤ d ∧ (∀ r ∈ rows, r.length = d) ∧
  ∀ rs : List (List Int), rs.Nodup → (∀ r, r ∈ rs ↔ r ∈ rows) → rs.Pairwise (fun a b => leR a b = true) → C (.lst (rs.map rowD)) env1
instance {K : PySem.W.Frag} {P : Program} {w : World} {te : TE} {de : DE} [he : AbsE te de] : AbsE (tCB (rSortS K P w) (tCons (tCB (rSetOfT K P w) (tCons te tNil)) tNil)) (dSortSet de) := ⟨fun σ Hs Fr H env Q C er sf fh h k => by
  refine he.run σ Hs Fr H env _ _ er sf fh h fun x a env1 Hs1 Fr1 H1 r1 s1 sf1 fh1 p1 h1 => ?_
  obtain ⟨rows, d, rfl, few, hd, hl, h1⟩ := h1
  obtain ⟨l, vs, rfl, hl1, ra⟩ := p1.lst_inv
  obtain ⟨ks, rfl, rfl, hk⟩ := rows_refs ra
  have s2 := sf1.trans fh1
  refine ⟨l, ks, rfl, SqL.of (s2 _ _ hl1), fun p hp => SqT.of (s2 _ _ (hk p hp)), by simpa using few, fun c L hc sub all => ?_⟩
  have g := Gr.new sf1 fh1 hc (SetTO P w c L)
  refine ⟨c, L, d, rfl, upd_same, fun p hp => SqT.of (g.h _ _ (s2 _ _ (hk p (sub p hp)))), hd, fun p hp => hl _ (List.mem_map_of_mem (sub p hp)), fun L' q pm nd _ pw hq => ?_⟩
  have g2 := Gr.new g.sf g.fh hq (.lst (L'.map fun q => V.ref q.1))
  have g3 := g.trans g2
  refine k _ (.lst ((L'.map (·.2)).map rowD)) env1 _ _ _ (r1.gr g3) (s1.trans g3.st) g3.sf g3.fh (.lstA upd_same ?_) (h1 _ nd (fun r => ?_) (List.pairwise_map.mpr pw))
  · have := rpA_pairs (H := upd (upd Hs1 c (SetTO P w c L)) q (.lst (L'.map fun q => V.ref q.1))) (bs := L'.map fun p => (V.ref p.1, rowD p.2)) fun b hb => by
      obtain ⟨p, hp, rfl⟩ := List.mem_map.mp hb
      exact rp_row (g3.st.s _ _ (hk p (sub p (pm.mem_iff.mp hp))))
    simpa [List.map_map, Function.comp_def] using this
  · constructor
    · intro hr
      obtain ⟨p, hp, rfl⟩ := List.mem_map.mp hr
      exact List.mem_map_of_mem (sub p (pm.mem_iff.mp hp))
    · intro hr
      obtain ⟨p, hp, rfl⟩ := List.mem_map.mp hr
      obtain ⟨q, hq, e⟩ := List.mem_map.mp (all p hp)
      rw [← e]
      exact List.mem_map_of_mem (pm.mem_iff.mpr hq)⟩
end Lf
set_option Elab.async false
set_option linter.all false
set_option maxRecDepth 100000
set_option maxHeartbeats 4000000
/-! dicts of one's own: keys rows of ints, values ints -/
namespace Lf
open PySem PySem.Spec PyProof.Rows L2 RZ
/-- entries: the key's address, the key, the value -/
abbrev Ent := Addr × List Int × Int
def atI2 (L : List Ent) (k : List Int) : Option Int := (L.find? fun x => decide (x.2.1 = k)).map (·.2.2)
def putI (L : List Ent) (k : List Int) (b : Addr) (n : Int) : List Ent := if (atI2 L k).isSome then L.map fun x => if x.2.1 = k then (x.1, x.2.1, n) else x else L ++ [(b, k, n)]
def entK (x : Ent) (v : Value) : List Int × Addr × Value := (x.2.1, x.1, v)
def EntR (x : Ent) (y : List Int × Addr × Value) : Prop := y.1 = x.2.1 ∧ y.2.1 = x.1 ∧ RelV (.int x.2.2) y.2.2
structure Dct (h : Heap) (a : Addr) (L : List Ent) : Prop where
  lo : (a == sysModules) = false
  sz : L.length ≤ 1000
  ex : ∃ (xs : List (List Int × Addr × Value)) (o : Obj) (es : Array DictEntry) (ep : Nat), Paired EntR L xs ∧ h.get? a = some o ∧ o.ExactDict ∧ o.data = .dict es ep ∧ (∀ (P : Program) (w : World), es.toList = xs.map (entryOfKey (TK P w))) ∧ (xs.map (·.1)).Nodup
def dctH (a : Addr) (L : List Ent) : HO := .ext fun h => Dct h a L
theorem Dct.keep {h h' : Heap} {a : Addr} {L : List Ent} (D : Dct h a L) (k : ∀ o, h.get? a = some o → h'.get? a = some o) : Dct h' a L := by
  obtain ⟨xs, o, es, ep, h1, h2, r⟩ := D.ex
  exact ⟨D.lo, D.sz, xs, o, es, ep, h1, k o h2, r⟩
theorem dctH_new {P : Program} {w : World} {H : Hp} {h : Heap} {a : Addr} {L : List Ent} (D : Dct h a L) : ObjOk P w H h a (dctH a L) := by
  obtain ⟨xs, o, es, ep, h1, h2, r⟩ := D.ex
  exact ⟨D, ⟨o, h2⟩, fun h1 h2 p k => p.keep k⟩
theorem ent_same {P P' : Program} {w w' : World} (x : List Int × Addr × Value) : entryOfKey (TK P w) x = entryOfKey (TK P' w') x := rfl
section
variable {X : Cx} {pins : List (Addr × Obj)} {σ : L2.St} {H : Hp} {s : Shared} {a b : Addr} {L : List Ent} {k : List Int} {n : Int} {A : Around} {E : Value → Shared → Prop}
/-- the keys are tracked -/
def Keyd (K : PySem.W.Frag) (H : Hp) (L : List Ent) : Prop := ∀ x ∈ L, SqT K H x.1 (x.2.1.map V.int)
theorem paired_mem {α β : Type} {F : α → β → Prop} : ∀ {xs : List α} {ys : List β}, Paired F xs ys → ∀ y ∈ ys, ∃ x ∈ xs, F x y
  | _, _, .nil, y, h => by simp at h
  | _, _, .cons r t, y, h => by
    rcases List.mem_cons.mp h with rfl | h
    · exact ⟨_, by simp, r⟩
    · obtain ⟨x, hx, hr⟩ := paired_mem t y h
      exact ⟨x, by simp [hx], hr⟩
theorem Dct.of (I : Inv X pins σ H s) (D : Dct s.heap a L) (hk : Keyd X.K H L) : ∃ xs, Paired EntR L xs ∧ s.heap.DictOfH (TK X.prog X.w) a xs := by
  obtain ⟨xs, o, es, ep, h1, h2, h3, h4, h5, h6⟩ := D.ex
  refine ⟨xs, h1, o, es, ep, h2, h3, h4, h5 _ _, fun x hx => ?_, h6⟩
  obtain ⟨y, hy, e1, e2, _⟩ := paired_mem h1 x hx
  rw [e1, e2]
  exact I.isT (hk y hy)
theorem at_rel : ∀ {L : List Ent} {xs : List (List Int × Addr × Value)}, Paired EntR L xs → ∀ k, RelO ((atI2 L k).map V.int) ((atKey xs k).map (·.2))
  | _, _, .nil, k => by simp [atI2, atKey, RelO]
  | _, _, @Paired.cons _ _ _ x y L xs r t, k => by
    have ih := at_rel t k
    obtain ⟨e1, e2, rv⟩ := r
    unfold atI2 atKey at ih ⊢
    by_cases q : x.2.1 = k
    · rw [List.find?_cons_of_pos (by simpa using q), List.find?_cons_of_pos (by simp [e1, q])]
      exact rv
    · rw [List.find?_cons_of_neg (by simpa using q), List.find?_cons_of_neg (by simp [e1, q])]
      exact ih
theorem put_rel {L : List Ent} {xs : List (List Int × Addr × Value)} (h : Paired EntR L xs) (k : List Int) (b : Addr) {n : Int} {r : Value} (rv : RelV (.int n) r) : Paired EntR (putI L k b n) (storedH xs k b r) := by
  have e : (atI2 L k).isSome = (atKey xs k).isSome := by
    have := (at_rel h k).isSome_eq
    simpa using this
  unfold putI storedH
  rw [e]
  by_cases q : (atKey xs k).isSome = true
  · rw [if_pos q, if_pos q]
    clear e q
    induction h with
    | nil => exact .nil
    | @cons x y L xs r0 t ih =>
      obtain ⟨e1, e2, r1⟩ := r0
      rw [List.map_cons, List.map_cons]
      refine .cons ?_ ih
      unfold putAt
      by_cases z : x.2.1 = k
      · rw [if_pos z, if_pos (by rw [e1]; exact z)]
        exact ⟨e1, e2, rv⟩
      · rw [if_neg z, if_neg (by rw [e1]; exact z)]
        exact ⟨e1, e2, r1⟩
  · rw [if_neg q, if_neg q]
    exact Paired.snoc h ⟨rfl, rfl, rv⟩

/-- {} -/
def tINew : TE := fun _ H Q => ∀ p, H p = none → Q (.ref p) (upd H p (dctH p []))
theorem dct_empty (h : Heap) (hb : sysModules < h.objs.size) : Dct (h.push { cls := .type "dict", data := .dict #[] }) h.objs.size [] :=
  ⟨beq_eq_false_iff_ne.mpr (Ne.symm (Nat.ne_of_lt hb)), Nat.zero_le _, [], _, #[], 0, .nil, Heap.get?_push_size _ rfl, ⟨rfl, rfl, rfl⟩, rfl, fun _ _ => rfl, List.nodup_nil⟩
theorem pe_inew {pos : Pos} : PE X (.Dict [] [] pos) tINew := ⟨fun pins s σ H Q I h =>
  wpAny_Dict_empty ⟨.ref s.heap.objs.size, _, I.laid (a := s.heap.objs.size) (o := dctH s.heap.objs.size []) (t' := s.toks) (fun _ _ q => Heap.get?_push_of_some _ q) (Nat.le_refl _) (dctH_new (dct_empty s.heap I.big)), rfl, h _ (I.hok.fresh (Nat.le_refl _))⟩⟩
theorem Dct.raw (D : Dct s.heap a L) : ∃ o, s.heap.get? a = some o ∧ o.ExactDict := let ⟨_, o, _, _, _, h2, h3, _⟩ := D.ex; ⟨o, h2, h3⟩
/-- found.get(k, x) -/
def tIGet2 (K : PySem.W.Frag) (td ty tx : TE) : TE := fun σ H Q => td σ H fun x H1 => ∃ a, x = .ref a ∧ (∃ L, H1 a = some (dctH a L)) ∧ ty σ H1 fun y H2 => tx σ H2 fun z H3 => ∃ L b k n, H3 a = some (dctH a L) ∧ Keyd K H3 L ∧ y = .ref b ∧ SqT K H3 b (k.map V.int) ∧ z = .int n ∧ Q (.int ((atI2 L k).getD n)) H3
theorem pe_iget2 {o e f : Expr} {apos cpos : Pos} {td ty tx : TE} (hu : X.A.units + 1 < cLine) (ho : PE X o td) (he : PE X e ty) (hf : PE X f tx) (m : M2 X o "get" apos e f cpos) : PE X (.Call (.Attribute o "get" apos) [e, f] [] cpos) (tIGet2 X.K td ty tx) := by
  refine ⟨fun pins s σ H Q I h => ?_⟩
  refine wpAny_Call_method m.base m.few m.line PySem.F.plainAttrs_dict PySem.F.slot_dict_get PySem.F.type_dict_get (thn (ho.run pins s σ H _ I h) fun u s1 ⟨x, H1, I1, rx, a, ex, ⟨L, ha⟩, q1⟩ => ?_)
  subst ex
  obtain rfl : u = Value.ref a := rx
  have D1 : Dct s1.heap a L := (I1.hok a _ ha).1
  obtain ⟨ob, ho1, ho2⟩ := D1.raw
  refine ⟨⟨ob, ho1, ho2.1⟩, fun b q => by cases q; exact ⟨ob, ho1, ho2.2.1⟩, ?_⟩
  rw [m.trees]
  refine Calls.callWith_builtin rfl (Calls.evalArgs_plain (Calls.spliced_cons (thn (he.run pins s1 σ H1 _ I1 q1) fun iv s2 ⟨y, H2, I2, ry, q2⟩ =>
    Calls.spliced_cons (thn (hf.run pins s2 σ H2 _ I2 q2) fun fv s3 ⟨z, H3, I3, rz, L3, b, k, n, ha3, hk3, ey, hb, ez, q3⟩ => Calls.spliced_nil ?_))))
  subst ey ez
  obtain rfl : iv = Value.ref b := ry
  have D3 : Dct s3.heap a L3 := (I3.hok a _ ha3).1
  obtain ⟨xs, rel, dd⟩ := D3.of I3 hk3
  refine call_meetsIn PySem.F.slot_dict_get dd.typeIs PySem.F.entry_dict_get (PySem.F.args_dict_get_3 _ _ _) (meetsH_dict_get_default (TK X.prog X.w) a b D3.lo fv) ⟨tupleKind_room_in1 hu, k, xs, I3.isT hb, dd, ⟨_, H3, I3.tok _, ?_, q3⟩⟩
  have g := (at_rel rel k).getD rz
  cases q : atI2 L3 k with
  | none => rw [q] at g; exact g
  | some i => rw [q] at g; exact g
/-- found[k] -/
def tIGet (K : PySem.W.Frag) (td ty : TE) : TE := fun σ H Q => td σ H fun x H1 => ty σ H1 fun y H2 => ∃ a L b k n, x = .ref a ∧ H2 a = some (dctH a L) ∧ Keyd K H2 L ∧ y = .ref b ∧ SqT K H2 b (k.map V.int) ∧ atI2 L k = some n ∧ Q (.int n) H2
theorem pe_iget {o i : Expr} {pos : Pos} {td ty : TE} (hu : X.A.units + 1 < cLine) (ho : PE X o td) (hi : PE X i ty) (hs : NoSl i) : PE X (.Subscript o i pos) (tIGet X.K td ty) := by
  refine ⟨fun pins s σ H Q I h => ?_⟩
  refine subD_of PySem.F.slot_dict_getitem.lookup hs (thn (ho.run pins s σ H _ I h) fun u s1 ⟨x, H1, I1, rx, q1⟩ => thn (hi.run pins s1 σ H1 _ I1 q1) fun iv s2 ⟨y, H2, I2, ry, a, L, b, k, n, ex, ha, hk, ey, hb, hn, q2⟩ => ?_)
  subst ex ey
  obtain rfl : u = Value.ref a := rx
  obtain rfl : iv = Value.ref b := ry
  have D2 : Dct s2.heap a L := (I2.hok a _ ha).1
  obtain ⟨xs, rel, dd⟩ := D2.of I2 hk
  refine ⟨dd.typeIs, ?_⟩
  have g := at_rel rel k
  rw [hn] at g
  obtain ⟨w', hw, rw'⟩ := RelO.some_of (v := .int n) g
  obtain ⟨p, hp, hp2⟩ := Option.map_eq_some_iff.mp hw
  refine wpAny_getItem_heap (tupleKind_room_in1 hu) (I2.isT hb) dd hp ?_
  rw [hp2]
  exact ⟨.int n, H2, I2.tok _, rw', q2⟩
/-- found[k] = v -/
def sIPut (K : PySem.W.Frag) (td ty tv : TE) : TS := fun D σ H => tv σ H fun v H1 => td σ H1 fun x H2 => ty σ H2 fun y H3 => ∃ a L b k n, x = .ref a ∧ H3 a = some (dctH a L) ∧ L.length < 1000 ∧ Keyd K H3 L ∧ y = .ref b ∧ SqT K H3 b (k.map V.int) ∧ v = .int n ∧ D.nx σ (upd H3 a (dctH a (putI L k b n)))
theorem putI_len {L : List Ent} {k : List Int} {b : Addr} {n : Int} : (putI L k b n).length ≤ L.length + 1 := by
  unfold putI
  split <;> simp
theorem ps_iput {o i value : Expr} {pos pos' : Pos} {td ty tv : TE} (hu : X.A.units + 1 < cLine) (ho : PE X o td) (hi : PE X i ty) (hv : PE X value tv) (hs : swapsWith value (some (.Subscript o i pos')) pos.line X.env = pure false) :
    PS X (.Assign [.Subscript o i pos'] value pos) (sIPut X.K td ty tv) := by
  refine ⟨fun pins s σ H D I h => ?_⟩
  refine wpAny_Assign_Subscript (thn (hv.run pins s σ H _ I h) fun r s1 ⟨v, H1, I1, rv, q1⟩ => thn (ho.run pins s1 σ H1 _ I1 q1) fun u s2 ⟨x, H2, I2, rx, q2⟩ => thn (hi.run pins s2 σ H2 _ I2 q2) fun iv s3 ⟨y, H3, I3, ry, a, L, b, k, n, ex, ha, hl, hk, ey, hb, en, q3⟩ => ?_) hs
  subst ex ey en
  obtain rfl : u = Value.ref a := rx
  obtain rfl : iv = Value.ref b := ry
  have D3 : Dct s3.heap a L := (I3.hok a _ ha).1
  obtain ⟨xs, rel, dd⟩ := D3.of I3 hk
  have hz : xs.length ≤ sizeLine := by rw [← Paired.length rel]; exact szl (by have := D3.sz; omega)
  refine wpAny_setItem_heap (hsz := hz) (tupleKind_room_in1 hu) (I3.isT hb) dd fun h' dd' hs => ?_
  obtain ⟨q, es, ep, hq, h2, h3, h4, _, h5⟩ := dd'
  refine ⟨σ, _, d_write I3 (by rw [ha]; exact True.intro) hs ⟨q, hq⟩ (dctH_new ⟨D3.lo, by have := putI_len (L := L) (k := k) (b := b) (n := n); omega, _, q, es, ep, put_rel rel k b rv, hq, h2, h3, fun P w => h4, h5⟩), q3⟩
end
end Lf
set_option Elab.async false
set_option linter.all false
set_option maxRecDepth 100000
set_option maxHeartbeats 4000000
/-! sorted(found); the readings of dicts -/
namespace Lf
open PySem PySem.Spec PyProof.Rows L2 RZ PySem.Calls PyProof.V
open PySem.W (dataLe AllAlike Sortable EachIs alike dataLt lt_data sorted_data list_sort_data KdlSrc kdu_collect)
section
variable {P : Program} {w : World} {A : Around} {E : Value → Shared → Prop} {s : Shared}
theorem sorted_dct {a : Addr} {es : Array DictEntry} {ep : Nat} {ks : List (Addr × List Int)} {Q : Value → Shared → Prop} (hm : s.heap.DictRaw a es ep) (lo : (a == sysModules) = false) (hh : A.handled = none)
    (hes : es.toList.map (·.key) = ks.map fun q => Value.ref q.1) (few : ks.length ≤ 1000) (tup : ∀ q ∈ ks, IsT P w s.heap q.2 q.1) {d : Nat} (hd1 : 1 ≤ d) (hB : ∀ p ∈ ks, p.2.length = d) (hu : A.units + 64 < cLine)
    (hQ : ∀ (h1 h' : Heap) (tk : Nat) (p : Addr) (out : Array Value) (c : Nat), (∀ b o, s.heap.get? b = some o → h1.get? b = some o) → (∀ b o, h1.get? b = some o → h'.get? b = some o) → h1.objs.size ≤ p →
      h'.get? p = some (seqObj "list" out c) → out.toList = (ks.mergeSort (dataLe false rowP)).map (fun q => Value.ref q.1) → Q (.ref p) { s with heap := h', toks := tk }) :
    wpAny (model P w) A (call (.builtin "sorted") [.ref a]) Q E s := by
  have hsz : es.size = ks.length := by
    have := congrArg List.length hes
    simpa using this
  refine Calls.call_function_entry kind_sorted plain_sorted entry_sorted (args_sorted1 _) ?_
  unfold Builtin.«sorted»
  refine wpAny_bind (m := checkCount "sorted" 1 1 _) (wpAny_pure ?_)
  refine wpAny_bind (kdu_collect (A := A.in1) (KdlSrc.rawDict (es := es) (ep := ep) lo) hh hm (by rw [hsz]; exact szl (by omega)) fun h1 tk acc k1 hacc => ?_)
  have e1 : acc.toList = ks.map fun q => Value.ref q.1 := by
    rw [← hes]
    apply List.ext_getElem?
    intro j
    obtain ⟨l1, l2⟩ := hacc
    by_cases hj : j < es.size
    · have h3 : acc[j]? = some (acc[j]'(by omega)) := Array.getElem?_eq_getElem _
      obtain ⟨hi, e⟩ := l2 j _ h3
      rw [Array.getElem?_toList, h3, e, List.getElem?_map, Array.getElem?_toList, Array.getElem?_eq_getElem hj]; rfl
    · rw [List.getElem?_eq_none (by simp; omega), List.getElem?_eq_none (by simp; omega)]
  generalize hvs : acc.toList = vs at e1 ⊢
  have hvl : vs.length = ks.length := by rw [e1, List.length_map]
  refine wpAny_bind (wpAny_newList ?_ (by rw [hvl]; exact szl (by omega)))
  have hoL : (h1.push (seqObj "list" vs.toArray 0)).get? h1.objs.size = some (seqObj "list" vs.toArray 0) := Heap.get?_push_size _ rfl
  have rd : ∀ q ∈ ks, ∃ as, Reads (h1.push (seqObj "list" vs.toArray 0)) (.ref q.1) (rowP q) as ∧ h1.objs.size ∉ as := fun q hq => by
    obtain ⟨o', items, n', ho', hc', hd', hi'⟩ := tup q hq
    have h2 : (h1.push (seqObj "list" vs.toArray 0)).get? q.1 = some o' := Heap.get?_push_of_some _ (k1 _ _ ho')
    exact ⟨_, Reads.tuple h2 hc' hd' ((ints_of_items hi').reads _), by simp⟩
  have er : ∀ (L1 : List (Addr × List Int)), (∀ q ∈ L1, q ∈ ks) → EachIs (fun v (q : Addr × List Int) => ∃ as, Reads (h1.push (seqObj "list" vs.toArray 0)) v (rowP q) as ∧ h1.objs.size ∉ as) (L1.map fun q => Value.ref q.1) L1 := by
    intro L1
    induction L1 with
    | nil => exact fun _ => .nil
    | cons q L1 ih => exact fun h => .cons (rd q (h q (by simp))) (ih fun r hr => h r (by simp [hr]))
  have ee : ∀ (L1 : List (Addr × List Int)), EachIs (fun v (q : Addr × List Int) => v = Value.ref q.1) (L1.map fun q => Value.ref q.1) L1 := by
    intro L1
    induction L1 with
    | nil => exact .nil
    | cons q L1 ih => exact .cons rfl ih
  have back : ∀ (out : List Value) (L2 : List (Addr × List Int)), EachIs (fun v (q : Addr × List Int) => v = Value.ref q.1) out L2 → out = L2.map fun q => Value.ref q.1 := by
    intro out
    induction out with
    | nil => intro L2 h; cases h; rfl
    | cons v out ih =>
      intro L2 h
      cases h with
      | cons h1 h2 => rw [h1, ih _ h2]; rfl
  have al : AllAlike (ks.map rowP) := fun x hx y hy => by
    obtain ⟨q, hq, rfl⟩ := List.mem_map.mp hx
    obtain ⟨r, hr, rfl⟩ := List.mem_map.mp hy
    unfold rowP
    rw [PySem.W.alike]
    exact PySem.W.alike_ints _ _
  have so : Sortable (ks.map rowP) := .inl fun x hx => by
    obtain ⟨q, hq, rfl⟩ := List.mem_map.mp hx
    have l := hB q hq
    cases h : q.2 with
    | nil => rw [h] at l; simp at l; omega
    | cons y r => exact ⟨_, _, by show PyData.tuple (q.2.map .int) = _; rw [h]; rfl⟩
  refine wpAny_bind (wpAny_holding (list_sort_data (enc := rowP) (bs := ks) (R := fun v (q : Addr × List Int) => v = Value.ref q.1) (s := { s with heap := h1.push (seqObj "list" vs.toArray 0), toks := tk }) hoL (by rw [e1]; exact ee ks) (by rw [e1] at er ⊢; exact er ks fun _ h => h) al so (szl (by omega)) (fun q _ => ?_) fun out a1 a2 => ?_))
  · have : (rowP q).depth ≤ 1 := by
      show PyData.depth (.tuple (q.2.map .int)) ≤ 1
      rw [PyData.depth, PySem.W.depth_ints]; exact Nat.le_refl _
    show A.in1.units + 1 + (rowP q).depth < cLine
    have : A.in1.units ≤ A.units + 1 := Nat.le_refl _
    omega
  obtain ⟨c, hc⟩ := sortedHeap_at (vs := vs) (out := out.toArray) hoL
  refine wpAny_pure ⟨_, rfl, hQ h1 _ tk h1.objs.size out.toArray c k1 (fun b u q => ?_) (Nat.le_refl _) hc (by simpa using back _ _ a2)⟩
  have hlt := Heap.lt_size q
  show (sortedHeap (h1.push (seqObj "list" vs.toArray 0)) h1.objs.size vs out.toArray).get? b = some u
  rw [sortedHeap_old (Nat.ne_of_lt hlt) (by rw [size_push']; exact Nat.lt_succ_of_lt hlt)]
  exact Heap.get?_push_of_some _ q
end
theorem ent_keys {P : Program} {w : World} : ∀ {L : List Ent} {xs : List (List Int × Addr × Value)}, Paired EntR L xs → (xs.map (entryOfKey (TK P w))).map (·.key) = (L.map fun x => (x.1, x.2.1)).map fun q => Value.ref q.1
  | _, _, .nil => rfl
  | _, _, .cons r t => by
    simp only [List.map_cons]
    rw [ent_keys t]
    congr 1
    exact congrArg Value.ref r.2.1
def rISort (K : PySem.W.Frag) : List V → Hp → VK → Prop := fun vs H Q => ∃ (a : Addr) (L : List Ent) (d : Nat), vs = [V.ref a] ∧ H a = some (dctH a L) ∧ Keyd K H L ∧ 1 ≤ d ∧ (∀ x ∈ L, x.2.1.length = d) ∧
  ∀ p, H p = none → Q (.ref p) (upd H p (.lst (((L.map fun x => (x.1, x.2.1)).mergeSort (dataLe false rowP)).map fun q => V.ref q.1)))
theorem cr_isort {X : Cx} (hc : X.calm = true) (hu : X.A.units + 64 < cLine) : CallR X (.builtin "sorted") (rISort X.K) := by
  intro pins s σ H vs us Q I r h
  obtain ⟨a, L, d, rfl, ha, hk, hd, hB, q⟩ := h
  have D : Dct s.heap a L := (I.hok a _ ha).1
  obtain ⟨xs, o, es, ep, h1, h2, h3, h4, h5, h6⟩ := D.ex
  rw [Vals.ref1 r]
  have hes : es.toList.map (·.key) = (L.map fun x => (x.1, x.2.1)).map fun q => Value.ref q.1 := by
    rw [h5 X.prog X.w]
    exact ent_keys h1
  have sz := D.sz
  refine sorted_dct (ks := L.map fun x => (x.1, x.2.1)) ⟨o, h2, h3, h4⟩ D.lo (I.ok.hd hc) hes (by rw [List.length_map]; exact sz) (fun q hq => ?_) hd (fun q hq => ?_) hu fun hp h' tk p out c k1 k2 lt hg hout => ?_
  · obtain ⟨x, hx, rfl⟩ := List.mem_map.mp hq
    exact I.isT (hk x hx)
  · obtain ⟨x, hx, rfl⟩ := List.mem_map.mp hq
    exact hB x hx
  · have I2 : Inv X pins σ H { s with heap := hp, toks := tk } := I.kept k1
    have hlen : (((L.map fun x => (x.1, x.2.1)).mergeSort (dataLe false rowP)).map fun q => V.ref q.1).length ≤ sizeLine := by
      rw [List.length_map, List.length_mergeSort, List.length_map]
      exact szl (by omega)
    have hv : Vals (((L.map fun x => (x.1, x.2.1)).mergeSort (dataLe false rowP)).map fun q => V.ref q.1) out.toList := by rw [hout]; exact vals_of_refs _
    exact ⟨.ref p, upd H p (.lst (((L.map fun x => (x.1, x.2.1)).mergeSort (dataLe false rowP)).map fun q => V.ref q.1)), I2.laid (t' := tk) k2 lt ⟨hlen, out.toList, c, hv, hg⟩, rfl, q p (I2.hok.fresh lt)⟩
end Lf
set_option Elab.async false
set_option linter.all false
set_option maxRecDepth 100000
set_option maxHeartbeats 4000000
/-! readings of dicts of one's own -/
namespace Lf
open PySem PySem.Spec PyProof.Rows L2 RZ
open PySem.W (dataLe)
abbrev IKV := List (List Int × Int)
def lookI (kvs : IKV) (k : List Int) : Option Int := (kvs.find? fun x => decide (x.1 = k)).map (·.2)
def stI (kvs : IKV) (k : List Int) (n : Int) : IKV := if (lookI kvs k).isSome then kvs.map fun x => if x.1 = k then (x.1, n) else x else kvs ++ [(k, n)]
def dctO (kvs : IKV) : Ow where
  At := fun Hs H v fp => ∃ a L, v = .ref a ∧ fp = [a] ∧ H a = some (dctH a L) ∧ (∀ x ∈ L, Hs x.1 = some (.tup (x.2.1.map V.int))) ∧ kvs = L.map (·.2)
  mono := fun ⟨a, L, h1, h2, h3, h4, h5⟩ s k => ⟨a, L, h1, h2, by rw [k a (by rw [h2]; simp)]; exact h3, fun x hx => s _ _ (h4 x hx), h5⟩
  known := fun ⟨a, L, h1, h2, h3, h4, h5⟩ b hb => by
    rw [h2] at hb
    have : b = a := by simpa using hb
    rw [this, h3]; exact fun z => by cases z
theorem look_at (L : List Ent) (k : List Int) : lookI (L.map (·.2)) k = atI2 L k := by
  unfold lookI atI2
  rw [List.find?_map, Option.map_map]; rfl
theorem st_put (L : List Ent) (k : List Int) (b : Addr) (n : Int) : (putI L k b n).map (·.2) = stI (L.map (·.2)) k n := by
  unfold putI stI
  rw [look_at]
  split
  · rw [List.map_map, List.map_map]
    refine List.map_congr_left fun x _ => ?_
    show (if x.2.1 = k then (x.1, x.2.1, n) else x).2 = if x.2.1 = k then (x.2.1, n) else x.2
    split <;> rfl
  · rw [List.map_append]; rfl
theorem keyd_of {K : PySem.W.Frag} {Hs H : Hp} {L : List Ent} (s : Same Hs H) (h : ∀ x ∈ L, Hs x.1 = some (.tup (x.2.1.map V.int))) : Keyd K H L := fun x hx => SqT.of (s _ _ (h x hx))
theorem row_inv {H : Hp} {v : V} {k : List Int} (r : Rp H v (rowD k)) : ∃ b, v = .ref b ∧ H b = some (.tup (k.map V.int)) := by
  obtain ⟨b, vs, e, hb, ra⟩ := r.tup_inv
  have ev := ints_of ra
  subst ev
  exact ⟨b, e, hb⟩
/-! found = {} -/
def tNewI (i : Nat) : TS := tAsg tINew (gName i)
theorem ps_newI {X : Cx} {st : Stmt} {i : Nat} (h : PS X st (tAsg tINew (gName i))) : PS X st (tNewI i) := h
def dNewI (i : Nat) : DS := fun env E => free env i = true ∧ E.nx (env.set i (some (.o (dctO []))))
instance {i : Nat} : AbsS (tNewI i) (dNewI i) := ⟨fun σ Hs Fr H env D E er sf fh h kn kr kb kc => by
  obtain ⟨hfree, hE⟩ := h
  obtain ⟨fp, r⟩ := er
  intro p hp
  have g := Gr.refl (H := H) sf fh
  have hk : Same H (upd H p (dctH p [])) := same_upd (Same.refl _) hp
  have r1 : EnvF Hs Fr (upd H p (dctH p [])) σ env fp := r.heap hk
  exact kn _ _ Hs Fr _ ⟨_, r1.newO i (v := .ref p) (w := dctO []) (fp' := [p]) ⟨p, [], rfl, rfl, upd_same, fun x hx => by simp at hx, rfl⟩ (fun b hb => by
    have : b = p := by simpa using hb
    subst this; exact none_of fh hp) fun k e he b hb hm => by
      have : b = p := by simpa using hm
      subst this
      obtain ⟨u, h1, h2⟩ := r.at_ k e he
      exact En.known h2 b hb hp⟩ (Stp.refl _ _) sf (fh.trans hk) (.set _ _ hfree) hE⟩
/-! found.get(k, x) -/
def dIGet2 (i : Nat) (de dx : DE) : DE := fun env C => (∃ kvs, env[i]? = some (some (.o (dctO kvs)))) ∧ de env fun y env1 => dx env1 fun z env2 => ∃ kvs k n, env2[i]? = some (some (.o (dctO kvs))) ∧ y = rowD k ∧ z = .int n ∧ C (.int ((lookI kvs k).getD n)) env2
instance {K : PySem.W.Frag} {i : Nat} {ty tx : TE} {de dx : DE} [he : AbsE ty de] [hx : AbsE tx dx] : AbsE (tIGet2 K (tVar i) ty tx) (dIGet2 i de dx) := ⟨fun σ Hs Fr H env Q C er sf fh h k => by
  obtain ⟨⟨kvs0, hw0⟩, h⟩ := h
  have er0 := er
  obtain ⟨fp, r⟩ := er
  obtain ⟨v0, hv, a, L0, rfl, h2, h3, _⟩ := r.val hw0
  refine ⟨_, hv, a, rfl, ⟨L0, h3⟩, ?_⟩
  refine he.run σ Hs Fr H env _ _ er0 sf fh h fun y dy env1 Hs1 Fr1 H1 r1 s1 sf1 fh1 p1 h1 => ?_
  refine hx.run σ Hs1 Fr1 H1 env1 _ _ r1 sf1 fh1 h1 fun z dz env2 Hs2 Fr2 H2 r2 s2 sf2 fh2 p2 hh => ?_
  obtain ⟨kvs, key, n, hw, rfl, rfl, hC⟩ := hh
  have r2' := r2
  obtain ⟨fp2, rf⟩ := r2
  obtain ⟨v2, hv2, a2, L, e2, _, hL, hk, ekv⟩ := rf.val hw
  rw [hv] at hv2
  cases hv2
  cases e2
  obtain ⟨b, rfl, hb⟩ := row_inv (p1.mono s2.s)
  have sH := sf2.trans fh2
  refine ⟨L, b, key, n, hL, keyd_of sH hk, rfl, SqT.of (sH _ _ hb), p2.int_inv, ?_⟩
  refine k _ _ env2 Hs2 Fr2 H2 r2' (s1.trans s2) sf2 fh2 (.int _) ?_
  rw [ekv, look_at] at hC
  exact hC⟩
/-! found[k] -/
def dIGet (i : Nat) (de : DE) : DE := fun env C => (∃ kvs, env[i]? = some (some (.o (dctO kvs)))) ∧ de env fun y env1 => ∃ kvs k n, env1[i]? = some (some (.o (dctO kvs))) ∧ y = rowD k ∧ lookI kvs k = some n ∧ C (.int n) env1
instance {K : PySem.W.Frag} {i : Nat} {ty : TE} {de : DE} [he : AbsE ty de] : AbsE (tIGet K (tVar i) ty) (dIGet i de) := ⟨fun σ Hs Fr H env Q C er sf fh h k => by
  obtain ⟨⟨kvs0, hw0⟩, h⟩ := h
  have er0 := er
  obtain ⟨fp, r⟩ := er
  obtain ⟨v0, hv, _⟩ := r.val hw0
  refine ⟨_, hv, ?_⟩
  refine he.run σ Hs Fr H env _ _ er0 sf fh h fun y dy env1 Hs1 Fr1 H1 r1 s1 sf1 fh1 p1 hh => ?_
  obtain ⟨kvs, key, n, hw, rfl, hn, hC⟩ := hh
  have r1' := r1
  obtain ⟨fp1, rf⟩ := r1
  obtain ⟨v2, hv2, a2, L, rfl, _, hL, hk, ekv⟩ := rf.val hw
  rw [hv] at hv2
  cases hv2
  obtain ⟨b, rfl, hb⟩ := row_inv p1
  have sH := sf1.trans fh1
  rw [ekv, look_at] at hn
  exact ⟨a2, L, b, key, n, rfl, hL, keyd_of sH hk, rfl, SqT.of (sH _ _ hb), hn, k _ _ env1 Hs1 Fr1 H1 r1' s1 sf1 fh1 (.int _) hC⟩⟩
/-! found[k] = v -/
def dIPut (i : Nat) (dk dv : DE) : DS := fun env E => dv env fun v env1 => (∃ kvs, env1[i]? = some (some (.o (dctO kvs)))) ∧ dk env1 fun y env2 => ∃ kvs k n, env2[i]? = some (some (.o (dctO kvs))) ∧ y = rowD k ∧ v = .int n ∧ kvs.length < 1000 ∧ keepE env (env2.set i (some (.o (dctO (stI kvs k n))))) ∧ E.nx (env2.set i (some (.o (dctO (stI kvs k n)))))
instance {K : PySem.W.Frag} {i : Nat} {ty tv : TE} {dk dv : DE} [hk : AbsE ty dk] [hv : AbsE tv dv] : AbsS (sIPut K (tVar i) ty tv) (dIPut i dk dv) := ⟨fun σ Hs Fr H env D E er sf fh h kn kr kb kc => by
  refine hv.run σ Hs Fr H env _ _ er sf fh h fun v dv1 env1 Hs1 Fr1 H1 r1 s1 sf1 fh1 p1 h1 => ?_
  obtain ⟨⟨kvs0, hw0⟩, h1⟩ := h1
  have r1' := r1
  obtain ⟨fp1, rf1⟩ := r1
  obtain ⟨v0, hv0, _⟩ := rf1.val hw0
  refine ⟨_, hv0, ?_⟩
  refine hk.run σ Hs1 Fr1 H1 env1 _ _ r1' sf1 fh1 h1 fun y dy env2 Hs2 Fr2 H2 r2 s2 sf2 fh2 p2 hh => ?_
  obtain ⟨kvs, key, n, hw, rfl, rfl, hl, ke, hE⟩ := hh
  obtain ⟨fp, r⟩ := r2
  obtain ⟨v2, hv2, a, L, rfl, ef, hL, hkey, ekv⟩ := r.val hw
  rw [hv0] at hv2
  cases hv2
  obtain ⟨b, rfl, hb⟩ := row_inv p2
  have sH := sf2.trans fh2
  have af : Fr2 a = none := r.fr i _ hw a (by rw [ef]; simp)
  have lL : L.length < 1000 := by rw [ekv, List.length_map] at hl; exact hl
  refine ⟨a, L, b, key, n, rfl, hL, lL, keyd_of sH hkey, rfl, SqT.of (sH _ _ hb), p1.int_inv, ?_⟩
  have at2 : (dctO (stI kvs key n)).At Hs2 (upd H2 a (dctH a (putI L key b n))) (.ref a) (fp i) := by
    refine ⟨a, _, rfl, ef, upd_same, fun x hx => ?_, by rw [ekv, st_put]⟩
    unfold putI at hx
    split at hx
    · obtain ⟨y, hy, rfl⟩ := List.mem_map.mp hx
      split
      · exact hkey y hy
      · exact hkey y hy
    · rcases List.mem_append.mp hx with hx | hx
      · exact hkey x hx
      · have : x = (b, key, n) := by simpa using hx
        subst this; exact hb
  have r3 := r.own hw hv0 (fun c hc _ => upd_ne (fun z => hc (by rw [ef, z]; simp))) at2
  exact kn σ _ Hs2 Fr2 _ ⟨fp, r3⟩ (s1.trans s2) sf2 (same_upd fh2 af) (kp_of ke) hE⟩
/-! sorted(found) -/
def tISort (K : PySem.W.Frag) (i : Nat) : TE := tCB (rISort K) (tCons (tVar i) tNil)
theorem pe_isort {X : Cx} {K : PySem.W.Frag} {e : Expr} {i : Nat} (h : PE X e (tCB (rISort K) (tCons (tVar i) tNil))) : PE X e (tISort K i) := h
def dISort (i : Nat) : DE := fun env C => ∃ kvs d, env[i]? = some (some (.o (dctO kvs))) ∧ 1 ≤ d ∧ (∀ x ∈ kvs, x.1.length = d) ∧ C (.lst (((kvs.map (·.1)).mergeSort leR).map rowD)) env
instance {K : PySem.W.Frag} {i : Nat} : AbsE (tISort K i) (dISort i) := ⟨fun σ Hs Fr H env Q C er sf fh h k => by
  obtain ⟨kvs, d, hw, hd, hl, hC⟩ := h
  have er0 := er
  obtain ⟨fp, r⟩ := er
  obtain ⟨v0, hv, a, L, rfl, _, hL, hk, ekv⟩ := r.val hw
  have sH := sf.trans fh
  refine ⟨_, hv, a, L, d, rfl, hL, keyd_of sH hk, hd, fun x hx => hl x.2 (by rw [ekv]; exact List.mem_map_of_mem hx), fun p hp => ?_⟩
  have g := Gr.new sf fh hp (.lst (((L.map fun x => (x.1, x.2.1)).mergeSort (dataLe false rowP)).map fun q => V.ref q.1))
  refine k _ _ env _ _ _ (er0.gr g) g.st g.sf g.fh (.lstA upd_same ?_) hC
  have em : ((L.map fun x => (x.1, x.2.1)).mergeSort (dataLe false rowP)).map (·.2) = (kvs.map (·.1)).mergeSort leR := by
    have := List.map_mergeSort (r := dataLe false rowP) (s := leR) (f := Prod.snd) (l := L.map fun x => (x.1, x.2.1)) (fun a _ b _ => rfl)
    rw [List.map_map] at this
    rw [ekv, List.map_map]
    exact this
  rw [← em]
  have := rpA_pairs (H := Hs) (bs := ((L.map fun x => (x.1, x.2.1)).mergeSort (dataLe false rowP)).map fun q => (V.ref q.1, rowD q.2)) fun b hb => by
    obtain ⟨q, hq, rfl⟩ := List.mem_map.mp hb
    obtain ⟨x, hx, rfl⟩ := List.mem_map.mp (List.mem_mergeSort.mp hq)
    exact rp_row (hk x hx)
  simp only [List.map_map, Function.comp_def] at this ⊢
  exact this.mono g.st.s⟩
section
variable {env : Env} {i : Nat} {kvs : IKV} {k : List Int} {n : Int} {a b : DE} {E : DEnds}
theorem st_newI (f : free env i = true) (h : E.nx (env.set i (some (.o (dctO []))))) : dNewI i env E := ⟨f, h⟩
theorem ev_iget2 (hw : env[i]? = some (some (.o (dctO kvs)))) (h1 : Ev a env (rowD k)) (h2 : Ev b env (.int n)) : Ev (dIGet2 i a b) env (.int ((lookI kvs k).getD n)) := fun C q => ⟨⟨kvs, hw⟩, h1 _ fun _ e => h2 _ fun _ e2 => by subst e e2; exact ⟨kvs, k, n, hw, rfl, rfl, q _ rfl⟩⟩
theorem ev_iget (hw : env[i]? = some (some (.o (dctO kvs)))) (h1 : Ev a env (rowD k)) (hn : lookI kvs k = some n) : Ev (dIGet i a) env (.int n) := fun C q => ⟨⟨kvs, hw⟩, h1 _ fun _ e => by subst e; exact ⟨kvs, k, n, hw, rfl, hn, q _ rfl⟩⟩
theorem st_iput (hw : env[i]? = some (some (.o (dctO kvs)))) (h1 : Ev a env (rowD k)) (h2 : Ev b env (.int n)) (l : kvs.length < 1000) (q : E.nx (env.set i (some (.o (dctO (stI kvs k n)))))) : dIPut i a b env E :=
  h2 _ fun _ e => ⟨⟨kvs, hw⟩, h1 _ fun _ e2 => by subst e e2; exact ⟨kvs, k, n, hw, rfl, rfl, l, keepE_set, q⟩⟩
theorem ev_isort {d : Nat} (hw : env[i]? = some (some (.o (dctO kvs)))) (hd : 1 ≤ d) (hl : ∀ x ∈ kvs, x.1.length = d) : Ev (dISort i) env (.lst (((kvs.map (·.1)).mergeSort leR).map rowD)) := fun C q => ⟨kvs, d, hw, hd, hl, q _ rfl⟩
end
end Lf
set_option Elab.async false
set_option linter.all false
set_option maxRecDepth 100000
set_option maxHeartbeats 4000000
/-! a dict of one key, of any depth -/
namespace Lf
open PySem PySem.Spec PyProof.Rows L2 RZ
/-- may be a key: whole numbers, tuples of such -/
inductive Kb : D → Prop
  | int (i : Int) : Kb (.int i)
  | tup {xs : List D} : (∀ x ∈ xs, Kb x) → Kb (.tup xs)
mutual
def nk : D → NestedKey
  | .int i => .num i
  | .tup xs => .tup (nks xs)
  | _ => .none
def nks : List D → List NestedKey
  | [] => []
  | x :: xs => nk x :: nks xs
end
theorem nks_eq : ∀ xs : List D, nks xs = xs.map nk
  | [] => rfl
  | x :: xs => by rw [nks, nks_eq xs]; rfl
theorem all_of {h : Heap} : ∀ {ks : List NestedKey} {us : List Value}, ks.length = us.length → (∀ (i : Nat) k u, ks[i]? = some k → us[i]? = some u → NestedIs h k u) → NestedAll h ks us
  | [], [], _, _ => .nil
  | [], _ :: _, l, _ => by simp at l
  | _ :: _, [], l, _ => by simp at l
  | k :: ks, u :: us, l, h => .cons (h 0 k u rfl rfl) (all_of (by simpa using l) fun i k' u' h1 h2 => h (i + 1) k' u' (by simpa using h1) (by simpa using h2))
theorem nested_of {X : Cx} {pins : List (Addr × Obj)} {σ : L2.St} {H : Hp} {s : Shared} (I : Inv X pins σ H s) {v : V} {d : D} (r : Rp H v d) : Kb d → ∀ u, RelV v u → NestedIs s.heap (nk d) u := by
  induction r with
  | non => intro k; cases k
  | bl b => intro k; cases k
  | int i =>
    intro _ u hu
    obtain ⟨t, rfl⟩ : ∃ t, u = .int i t := hu
    rw [nk]; exact .int i t
  | str x => intro k; cases k
  | lst _ _ _ _ => intro k; cases k
  | op _ _ => intro k; cases k
  | @tup a vs ds h l _ ih =>
    intro k u hu
    cases k with
    | tup hk =>
      obtain rfl : u = .ref a := hu
      obtain ⟨_, its, rv, o, h1, h2, n, h3⟩ := (show ObjOk X.prog X.w H s.heap a (.tup vs) from I.hok a _ h)
      rw [nk, nks_eq]
      refine .tup h1 h2 h3 (all_of (by rw [List.length_map, ← l, rv.length]) fun i k u' e1 e2 => ?_)
      rw [List.getElem?_map] at e1
      cases q : ds[i]? with
      | none => rw [q] at e1; cases e1
      | some x =>
        rw [q] at e1
        cases e1
        have hv : i < vs.length := by rw [l]; exact (List.getElem?_eq_some_iff.mp q).1
        have hvs : vs[i]? = some (vs[i]'hv) := List.getElem?_eq_getElem hv
        obtain ⟨u2, hu2, ru⟩ := rv.get hvs
        have e2' : its[i]? = some u' := by simpa using e2
        rw [e2'] at hu2
        cases hu2
        exact ih i _ x hvs q (hk x (List.mem_of_getElem? q)) _ ru
structure One (h : Heap) (a q : Addr) : Prop where
  lo : (a == sysModules) = false
  ex : ∃ (o : Obj) (es : Array DictEntry) (ep : Nat), h.get? a = some o ∧ o.ExactDict ∧ o.data = .dict es ep ∧ es.toList.map (·.key) = [.ref q]
def oneH (a q : Addr) : HO := .ext fun h => One h a q
theorem oneH_new {P : Program} {w : World} {H : Hp} {h : Heap} {a q : Addr} (D : One h a q) : ObjOk P w H h a (oneH a q) := by
  obtain ⟨o, es, ep, h2, r⟩ := D.ex
  exact ⟨D, ⟨o, h2⟩, fun h1 h2 p k => ⟨p.lo, let ⟨o, es, ep, e, r⟩ := p.ex; ⟨o, es, ep, k o e, r⟩⟩⟩
section
variable {X : Cx}
def tOneD (ty tv : TE) : TE := fun σ H Q => ∀ p, H p = none → ty σ (upd H p (dctH p [])) fun y H1 => tv σ H1 fun v H2 => ∃ q d, y = .ref q ∧ H2 p = some (dctH p []) ∧ Rp H2 (.ref q) d ∧ Kb d ∧ (nk d).depth ≤ 8 ∧ Q (.ref p) (upd H2 p (oneH p q))
theorem pe_oneD {k v : Expr} {pos : Pos} {tk tv : TE} (hu : X.A.units + 8 < cLine) (hk : PE X k tk) (hv : PE X v tv) : PE X (.Dict [some k] [v] pos) (tOneD tk tv) := by
  refine ⟨fun pins s σ H Q I q => ?_⟩
  have hn := I.hok.fresh (Nat.le_refl s.heap.objs.size)
  have I1 := I.laid (a := s.heap.objs.size) (o := dctH s.heap.objs.size []) (h' := s.heap.push { cls := .type "dict", data := .dict #[] }) (t' := s.toks) (fun _ _ q => Heap.get?_push_of_some _ q) (Nat.le_refl _) (dctH_new (dct_empty s.heap I.big))
  rw [arm_eval_Dict, zip_pairTrees [some k] [v] X.env pos (by rfl) (by rfl), dictDisplay_pairs _ (fun z => by have := congrArg List.length z; rw [pairTrees_length _ _ _ _ (by rfl) (by rfl)] at this; simp at this) (by rw [pairTrees_length _ _ _ _ (by rfl) (by rfl)]; show 1 < 17; decide)]
  refine wpAny_bind (wpAny_standAt (wpAny_bind (wpAny_subDictH (knd := nestedKind X.prog X.w) (Q := fun d s' => wpAny (model X.prog X.w) X.A (pure (Value.ref d)) (EP X pins σ Q) X.xe s') hu (by rw [pairTrees_length _ _ _ _ (by rfl) (by rfl)]; show 1 ≤ 15; decide) ?_)))
  refine pairTrees_cons_walk (thn (hk.run pins _ σ _ _ I1 (q _ hn)) fun u s1 ⟨y, H1, I2, ry, q1⟩ => thn (hv.run pins s1 σ H1 _ I2 q1) fun w2 s2 ⟨z, H2, I3, rz, qa, d, ey, hp, rp, kb, dp, q2⟩ => pairTrees_nil_walk ?_)
  subst ey
  obtain rfl : u = Value.ref qa := ry
  have D : Dct s2.heap s.heap.objs.size [] := (I3.hok _ _ hp).1
  obtain ⟨xs, o, es, ep, h1, h2, h3, h4, h5, h6⟩ := D.ex
  cases h1
  have key : (nestedKind X.prog X.w).is s2.heap (nk d) qa := ⟨nested_of I3 rp kb _ rfl, dp⟩
  refine ⟨[(nk d, qa, w2)], ⟨rfl, rfl, key, True.intro⟩, ⟨o, es, ep, h2, h3, h4, h5 X.prog X.w, fun x hx => by simp at hx, List.nodup_nil⟩, fun h' tk dd hs => wpAny_pure ?_⟩
  obtain ⟨o', es', ep', g1, g2, g3, g4, _, _⟩ := dd
  refine ⟨.ref s.heap.objs.size, _, d_write I3 (by rw [hp]; exact True.intro) hs ⟨o', g1⟩ (oneH_new ⟨D.lo, o', es', ep', g1, g2, g3, ?_⟩), rfl, q2⟩
  rw [g4]; rfl
def rLen1 : List V → Hp → VK → Prop := fun xs H Q => ∃ a q, xs = [V.ref a] ∧ H a = some (oneH a q) ∧ Q (.int 1) H
theorem cl_len1 : CallR X (.builtin "len") rLen1 := by
  intro pins s σ H xs us Q I r h
  obtain ⟨a, q, rfl, ha, hq⟩ := h
  rw [Vals.ref1 r]
  have D : One s.heap a q := (I.hok a _ ha).1
  obtain ⟨o, es, ep, h2, h3, h4, h5⟩ := D.ex
  have hm : s.heap.DictRaw a es ep := ⟨o, h2, h3, h4⟩
  have sz : es.size = 1 := by
    have := congrArg List.length h5
    simpa using this
  refine Calls.call_function_entry kind_len plain_len entry_len (args_len1 _) ?_
  unfold Builtin.«len»
  refine wpAny_bind (m := oneArg "len" _) (wpAny_pure ?_)
  refine wpAny_bind (m := callSpecial? (.ref a) (Str.ofString "__len__")) (wpAny_callSpecial?_slot (name := Str.ofString "__len__") hm.typeIs F.slot_dict_len (call_len_raw D.lo hm ?_))
  rw [sz]
  show wpAny _ _ _ _ _ { s with toks := s.toks + 1 }
  refine wpAny_bind (wpAny_holding (wpAny_pure ?_))
  refine wpAny_bind (wpAny_letGo ?_)
  show wpAny _ _ (if (((1 : Nat)) : Int) < 0 then _ else _) _ _ _
  rw [if_neg (by omega)]
  show wpAny _ _ (if (((1 : Nat)) : Int) ≥ 2 ^ 63 then _ else _) _ _ _
  rw [if_neg (by omega)]
  exact wpAny_bind (wpAny_mkInt (wpAny_pure ⟨_, rfl, .int 1, H, I.tok _, ⟨_, rfl⟩, hq⟩))
def rList1 : List V → Hp → VK → Prop := fun xs H Q => ∃ a q, xs = [V.ref a] ∧ H a = some (oneH a q) ∧ ∀ p, H p = none → Q (.ref p) (upd H p (.lst [.ref q]))
theorem cl_list1 (hc : X.calm = true) : CallR X (.type "list") rList1 := by
  intro pins s σ H xs us Q I r h
  obtain ⟨a, q, rfl, ha, hq⟩ := h
  rw [Vals.ref1 r]
  have D : One s.heap a q := (I.hok a _ ha).1
  obtain ⟨o, es, ep, h2, h3, h4, h5⟩ := D.ex
  have hm : s.heap.DictRaw a es ep := ⟨o, h2, h3, h4⟩
  have sz : es.size = 1 := by
    have := congrArg List.length h5
    simpa using this
  refine PySem.W.kdl_call (PySem.KdlSrc.rawDict (es := es) (ep := ep) D.lo) (I.ok.hd hc) hm (by rw [sz]; decide) fun h' tk acc c hk hg hacc => ?_
  have e1 : acc.toList = [Value.ref q] := by
    rw [← h5]
    apply List.ext_getElem?
    intro j
    obtain ⟨l1, l2⟩ := hacc
    by_cases hj : j < es.size
    · have h3 : acc[j]? = some (acc[j]'(by omega)) := Array.getElem?_eq_getElem _
      obtain ⟨hi, e⟩ := l2 j _ h3
      rw [Array.getElem?_toList, h3, e, List.getElem?_map, Array.getElem?_toList, Array.getElem?_eq_getElem hj]; rfl
    · rw [List.getElem?_eq_none (by simp; omega), List.getElem?_eq_none (by simp; omega)]
  exact ⟨.ref s.heap.objs.size, upd H s.heap.objs.size (.lst [.ref q]), I.laid (t' := tk) hk (Nat.le_refl _) ⟨szl (by show 1 ≤ 100000; decide), acc.toList, c, by rw [e1]; exact .cons rfl .nil, by simpa using hg⟩, rfl, hq _ (I.hok.fresh (Nat.le_refl _))⟩
end
end Lf
set_option Elab.async false
set_option linter.all false
set_option maxRecDepth 100000
set_option maxHeartbeats 4000000
/-! a dict of one key: readings; the last of a list; what is never reached; a new instance that is read alone behind its __init__ -/
namespace Lf
open PySem PySem.Spec PyProof.Rows L2 RZ
def oneO (d : D) : Ow where
  At := fun Hs H v fp => ∃ a q, v = .ref a ∧ fp = [a] ∧ H a = some (oneH a q) ∧ Rp Hs (.ref q) d
  mono := fun ⟨a, q, h1, h2, h3, h4⟩ s k => ⟨a, q, h1, h2, by rw [k a (by rw [h2]; simp)]; exact h3, h4.mono s⟩
  known := fun ⟨a, q, h1, h2, h3, h4⟩ b hb => by
    rw [h2] at hb
    have : b = a := by simpa using hb
    rw [this, h3]; exact fun z => by cases z
/-! found, fresh = {x: True}, [x] -/
def dParN (i j u : Nat) : DS := fun env E => ∃ xs, env[u]? = some (some (.d (.tup xs))) ∧ Kb (.tup xs) ∧ (nk (.tup xs)).depth ≤ 8 ∧ i ≠ j ∧ free env i = true ∧ free env j = true ∧ E.nx ((env.set i (some (.o (oneO (.tup xs))))).set j (some (.l [.tup xs])))
def tParN (i j u : Nat) (b : Bool) : TS := tPar i j (tCons (tOneD (tVar u) (tC (.bl b))) (tCons (tLst (tCons (tVar u) tNil)) tNil))
theorem ps_parN {X : Cx} {st : Stmt} {i j u : Nat} {b : Bool} (h : PS X st (tPar i j (tCons (tOneD (tVar u) (tC (.bl b))) (tCons (tLst (tCons (tVar u) tNil)) tNil)))) : PS X st (tParN i j u b) := h
instance {i j u : Nat} {b : Bool} : AbsS (tParN i j u b) (dParN i j u) := ⟨fun σ Hs Fr H env D E er sf fh h kn kr kb kc => by
  obtain ⟨xs, hu, hk, hd, nij, f1, f2, hE⟩ := h
  obtain ⟨v, hv, rv⟩ := er.dat hu
  obtain ⟨q, vs, rfl, hq, ra⟩ := rv.tup_inv
  obtain ⟨fp, r⟩ := er
  intro p hp
  have sH := sf.trans fh
  have hk1 : Same H (upd H p (dctH p [])) := same_upd (Same.refl _) hp
  refine ⟨_, hv, q, .tup xs, rfl, upd_same, rv.mono (sH.trans hk1), hk, hd, ?_⟩
  refine ⟨_, hv, by show 1 ≤ sizeLine; exact szl (by decide), fun l hl => ⟨.ref p, .ref l, rfl, ?_⟩⟩
  have np : p ≠ l := fun z => by rw [← z, upd_same] at hl; cases hl
  have hlH : H l = none := by rw [upd_ne (Ne.symm np), upd_ne (Ne.symm np)] at hl; exact hl
  have hk2 : Same H (upd (upd H p (dctH p [])) p (oneH p q)) := by rw [upd_upd]; exact same_upd (Same.refl _) hp
  have hk3 : Same (upd (upd H p (dctH p [])) p (oneH p q)) (upd (upd (upd H p (dctH p [])) p (oneH p q)) l (.lst [.ref q])) := same_upd (Same.refl _) hl
  have r1 : EnvF Hs Fr (upd (upd (upd H p (dctH p [])) p (oneH p q)) l (.lst [.ref q])) σ env fp := r.heap (hk2.trans hk3)
  have pf : Fr p = none := none_of fh hp
  have lf : Fr l = none := none_of fh hlH
  have old : ∀ (k : Nat) e, env[k]? = some (some e) → ∀ b ∈ fp k, b ≠ p ∧ b ≠ l := fun k e he b hb => by
    obtain ⟨u, h1, h2⟩ := r.at_ k e he
    have := En.known h2 b hb
    exact ⟨fun z => this (z ▸ hp), fun z => this (z ▸ hlH)⟩
  have r2 := r1.newO i (v := .ref p) (w := oneO (.tup xs)) (fp' := [p]) ⟨p, q, rfl, rfl, by rw [upd_ne np, upd_same], rv⟩ (fun b hb => by
    have : b = p := by simpa using hb
    subst this; exact pf) fun k e he b hb hm => by
      have : b = p := by simpa using hm
      exact (old k e he b hb).1 this
  have r3 := r2.setL (p := l) (vs := [.ref q]) (xs := [.tup xs]) j upd_same (RpA.cons rv RpA.nil) lf fun k e he hm => by
    by_cases z : k = i
    · rw [if_pos z] at hm
      have : l = p := by simpa using hm
      exact np this.symm
    · rw [if_neg z] at hm
      rw [List.getElem?_set_ne (Ne.symm z)] at he
      exact (old k e he l hm).2 rfl
  have f2' : free (env.set i (some (.o (oneO (.tup xs))))) j = true := by
    unfold free
    rw [List.getElem?_set_ne nij]
    exact f2
  exact kn _ _ Hs Fr _ ⟨_, r3⟩ (Stp.refl _ _) sf (fh.trans (hk2.trans hk3)) ((Kp.set _ _ f1).trans (Kp.set _ _ f2')) hE⟩
def tLen1 (i : Nat) : TE := tCB rLen1 (tCons (tVar i) tNil)
theorem pe_len1 {X : Cx} {e : Expr} {i : Nat} (h : PE X e (tCB rLen1 (tCons (tVar i) tNil))) : PE X e (tLen1 i) := h
def dLen1 (i : Nat) : DE := fun env C => (∃ d, env[i]? = some (some (.o (oneO d)))) ∧ C (.int 1) env
instance {i : Nat} : AbsE (tLen1 i) (dLen1 i) := ⟨fun σ Hs Fr H env Q C er sf fh h k => by
  obtain ⟨⟨d, hw⟩, hC⟩ := h
  have er0 := er
  obtain ⟨fp, r⟩ := er
  obtain ⟨v0, hv, a, q, rfl, _, hL, _⟩ := r.val hw
  exact ⟨_, hv, a, q, rfl, hL, k _ _ env Hs Fr H er0 (Stp.refl _ _) sf fh (.int _) hC⟩⟩
def tList1 (i : Nat) : TE := tCB rList1 (tCons (tVar i) tNil)
theorem pe_list1 {X : Cx} {e : Expr} {i : Nat} (h : PE X e (tCB rList1 (tCons (tVar i) tNil))) : PE X e (tList1 i) := h
def dList1 (i : Nat) : DE := fun env C => ∃ d, env[i]? = some (some (.o (oneO d))) ∧ C (.lst [d]) env
instance {i : Nat} : AbsE (tList1 i) (dList1 i) := ⟨fun σ Hs Fr H env Q C er sf fh h k => by
  obtain ⟨d, hw, hC⟩ := h
  have er0 := er
  obtain ⟨fp, r⟩ := er
  obtain ⟨v0, hv, a, q, rfl, _, hL, rd⟩ := r.val hw
  refine ⟨_, hv, a, q, rfl, hL, fun p hp => ?_⟩
  have g := Gr.new sf fh hp (.lst [.ref q])
  exact k _ _ env _ _ _ (er0.gr g) g.st g.sf g.fh (.lstA upd_same ((RpA.cons rd RpA.nil).mono g.st.s)) hC⟩
/-! xs.pop() -/
def tPopL (K : PySem.W.Frag) (i : Nat) : TE := tBM0 K "list" rPop (tVar i)
theorem pe_popL {X : Cx} {K : PySem.W.Frag} {e : Expr} {i : Nat} (h : PE X e (tBM0 K "list" rPop (tVar i))) : PE X e (tPopL K i) := h
def dPopL (i : Nat) : DE := fun env C => ∃ xs x, env[i]? = some (some (.l (xs ++ [x]))) ∧ C x (env.set i (some (.l xs)))
instance {K : PySem.W.Frag} {i : Nat} : AbsE (tPopL K i) (dPopL i) := ⟨fun σ Hs Fr H env Q C er sf fh h k => by
  obtain ⟨xs, x, hw, hC⟩ := h
  obtain ⟨p, vs, hp, hl, ra, hf⟩ := er.own hw
  obtain ⟨fp, r⟩ := er
  refine ⟨_, hp, .inl ⟨rfl, vs, SqL.of hl⟩, ?_⟩
  have ll : vs.length = xs.length + 1 := by rw [ra.1]; simp
  obtain ⟨v, hv, rv⟩ := ra.atD (i := xs.length) (d := x) (by simp)
  have r2 : RpA Hs vs.dropLast xs := by
    refine ⟨by rw [List.length_dropLast]; omega, fun k w d h1 h2 => ?_⟩
    have hk : k < xs.length := (List.getElem?_eq_some_iff.mp h2).1
    rw [List.getElem?_dropLast, if_pos (by omega)] at h1
    exact ra.2 k w d h1 (by rw [List.getElem?_append_left hk]; exact h2)
  refine ⟨p, vs, v, rfl, rfl, hl, by rw [ll]; exact hv, ?_⟩
  exact k v x _ Hs Fr _ ⟨_, r.updL hw hp r2⟩ (Stp.refl _ _) sf (same_upd fh hf) rv hC⟩
/-! never -/
def tNoE : TE := fun _ _ _ => False
theorem pe_no {X : Cx} {e : Expr} : PE X e tNoE := ⟨fun pins s σ H Q I h => h.elim⟩
def dNoE : DE := fun _ _ => False
instance : AbsE tNoE dNoE := ⟨fun σ Hs Fr H env Q C er sf fh h k => h⟩
theorem ps_no {X : Cx} {st : Stmt} : PS X st tNever := ⟨fun pins s σ H D I h => h.elim⟩
/-! a new instance -/
def FldR (H : Hp) (fsV : List (Str × V)) (fs : Flds) : Prop := Paired (fun a b => a.1 = b.1 ∧ Rp H a.2 b.2) fsV fs
theorem FldR.mono {H H' : Hp} (s : Same H H') {fsV : List (Str × V)} {fs : Flds} (r : FldR H fsV fs) : FldR H' fsV fs := Paired.mapP r fun _ _ z => ⟨z.1, z.2.mono s⟩
theorem FldR.look {H : Hp} {f : Str} : ∀ {fsV : List (Str × V)} {fs : Flds}, FldR H fsV fs → (fs.lookup f = none → fsV.lookup f = none) ∧ ∀ d, fs.lookup f = some d → ∃ u, fsV.lookup f = some u ∧ Rp H u d
  | _, _, .nil => ⟨fun _ => rfl, fun d h => by cases h⟩
  | _, _, @Paired.cons _ _ _ a b as bs r t => by
    obtain ⟨h1, h2⟩ := FldR.look (f := f) t
    rw [List.lookup_cons, List.lookup_cons, ← r.1]
    cases z : (f == a.1) with
    | true => exact ⟨fun (h : some b.2 = none) => (nomatch h), fun d (h : some b.2 = some d) => by cases h; exact ⟨a.2, rfl, r.2⟩⟩
    | false => exact ⟨h1, h2⟩
def insO (C : Addr) (fs : Flds) : Ow where
  At := fun Hs H v fp => ∃ p dx fsV, v = .ref p ∧ fp = [p, dx] ∧ dx ≠ p ∧ H p = some (.ins C dx fsV) ∧ H dx = some (.own p) ∧ FldR Hs fsV fs
  mono := fun ⟨p, dx, fsV, h1, h2, h3, h4, h5, h6⟩ s k => ⟨p, dx, fsV, h1, h2, h3, by rw [k p (by rw [h2]; simp)]; exact h4, by rw [k dx (by rw [h2]; simp)]; exact h5, h6.mono s⟩
  known := fun ⟨p, dx, fsV, h1, h2, h3, h4, h5, h6⟩ b hb => by
    rw [h2] at hb
    have : b = p ∨ b = dx := by simpa using hb
    rcases this with rfl | rfl
    · rw [h4]; exact fun z => by cases z
    · rw [h5]; exact fun z => by cases z
def tSetI (C : Addr) (i : Nat) (f : Str) (te : TE) : TS := tSetFld C i f te
theorem ps_setI {X : Cx} {st : Stmt} {C : Addr} {i : Nat} {f : Str} {te : TE} (h : PS X st (tSetFld C i f te)) : PS X st (tSetI C i f te) := h
def dSetI (C : Addr) (i : Nat) (f : Str) (de : DE) : DS := fun env E => de env fun d env1 => ∃ fs, env1[i]? = some (some (.o (insO C fs))) ∧ fs.lookup f = none ∧ fs.length < 100 ∧ keepE env (env1.set i (some (.o (insO C (fs ++ [(f, d)]))))) ∧ E.nx (env1.set i (some (.o (insO C (fs ++ [(f, d)])))))
instance {C : Addr} {i : Nat} {f : Str} {te : TE} {de : DE} [ha : AbsE te de] : AbsS (tSetI C i f te) (dSetI C i f de) := ⟨fun σ Hs Fr H env D E er sf fh h kn kr kb kc => by
  refine ha.run σ Hs Fr H env _ _ er sf fh h fun v d env1 Hs1 Fr1 H1 r1 s1 sf1 fh1 rv hc => ?_
  obtain ⟨fs, hw, hf, hl, ke, hE⟩ := hc
  obtain ⟨fp, r⟩ := r1
  obtain ⟨v0, hv, p, dx, fsV, rfl, ef, ne, hp, hdx, rel⟩ := r.val hw
  have lV : fsV.length = fs.length := Paired.length rel
  refine ⟨_, hv, p, dx, fsV, rfl, hp, by omega, ?_⟩
  have pf : Fr1 p = none := r.fr i _ hw p (by rw [ef]; simp)
  rw [putF_new ((FldR.look rel).1 hf)]
  have at2 : (insO C (fs ++ [(f, d)])).At Hs1 (upd H1 p (.ins C dx (fsV ++ [(f, v)]))) (.ref p) (fp i) := ⟨p, dx, _, rfl, ef, ne, upd_same, by rw [upd_ne ne]; exact hdx, Paired.snoc rel ⟨rfl, rv⟩⟩
  have r3 := r.own hw hv (fun c hc _ => upd_ne (fun z => hc (by rw [ef, z]; simp))) at2
  exact kn σ _ Hs1 Fr1 _ ⟨fp, r3⟩ s1 sf1 (same_upd fh1 pf) (kp_of ke) hE⟩
theorem st_setI {C : Addr} {env : Env} {i : Nat} {f : Str} {a : DE} {d : D} {fs : Flds} {E : DEnds} (h : Ev a env d) (hw : env[i]? = some (some (.o (insO C fs)))) (hf : fs.lookup f = none) (hl : fs.length < 100) (k : E.nx (env.set i (some (.o (insO C (fs ++ [(f, d)])))))) : dSetI C i f a env E :=
  h _ fun _ e => by subst e; exact ⟨fs, hw, hf, hl, keepE_set, k⟩
/-- a def that tells such an instance -/
def RSp (C : Addr) (n : Nat) (rw_ : List D → (Flds → Prop) → Prop) : Sp := fun vs H Q _ => vs.length = n ∧ ∃ Hs Fr ds K, Same Hs Fr ∧ Same Fr H ∧ RpA Hs vs ds ∧ rw_ ds K ∧
  ∀ v fs Hs' Fr' H', Stp Hs Fr Hs' Fr' → Same Hs' Fr' → Same Fr' H' → RecAt Hs' C v fs → K fs → Q v H'
def tMkR (C : Addr) (n : Nat) (rw_ : List D → (Flds → Prop) → Prop) (i : Nat) (t : TA) : TS := tAsg (tCall (RSp C n rw_) [] E0 t) (gName i)
theorem ps_mkR {X : Cx} {st : Stmt} {C : Addr} {n : Nat} {rw_ : List D → (Flds → Prop) → Prop} {i : Nat} {t : TA} (h : PS X st (tAsg (tCall (RSp C n rw_) [] E0 t) (gName i))) : PS X st (tMkR C n rw_ i t) := h
def dMkR (C : Addr) (n : Nat) (rw_ : List D → (Flds → Prop) → Prop) (i : Nat) (da : DA) : DS := fun env E => da env fun ds env1 => ds.length = n ∧ keepE env env1 ∧ free env1 i = true ∧ rw_ ds fun fs => E.nx (env1.set i (some (.o (recO C fs))))
instance {C : Addr} {n : Nat} {rw_ : List D → (Flds → Prop) → Prop} {i : Nat} {t : TA} {da : DA} [ha : AbsA t da] : AbsS (tMkR C n rw_ i t) (dMkR C n rw_ i da) := ⟨fun σ Hs Fr H env D E er sf fh h kn kr kb kc => by
  refine ha.run σ Hs Fr H env _ _ er sf fh h fun vs ds env1 Hs1 Fr1 H1 r1 s1 sf1 fh1 ra hc => ?_
  obtain ⟨hn, ke, hfree, hp⟩ := hc
  obtain ⟨fp, rf⟩ := r1
  have hP := rf.ownedP (fun _ => False)
  refine ⟨by rw [List.append_nil, ra.1]; exact hn, Hs1, frC Fr1 H1 (Owned env1 fp fun _ => False), ds, _, sf1.trans frC_keep, frC_heap fh1, by rw [List.append_nil]; exact ra, hp, fun v fs Hs' Fr' H' s' sf' fh' rv c => ?_⟩
  have A := after sf1 hP s' sf' fh'
  have r2 : EnvF Hs' (frD Fr' (Owned env1 fp fun _ => False)) H' σ env1 fp := ⟨rf.len, fun i e he => by
    obtain ⟨u, h1, h2⟩ := rf.at_ i e he
    exact ⟨u, h1, En.mono h2 s'.s fun a ha => A.at_ a ⟨i, e, id, he, ha⟩⟩, fun i e he a ha => by
    have z : Owned env1 fp (fun _ => False) a := ⟨i, e, id, he, ha⟩
    show frD Fr' _ a = none
    unfold frD
    simp only [z, if_true], rf.dis⟩
  have r3 := r2.newO i (v := v) (w := recO C fs) (fp' := []) ⟨rfl, rv⟩ (fun b hb => by simp at hb) fun k e he b hb hm => by simp at hm
  exact kn _ _ Hs' _ H' ⟨_, r3⟩ (s1.trans A.st) A.sf A.fh ((Kp.ofE ke).trans (Kp.set _ _ hfree)) c⟩
theorem st_mkR {C : Addr} {n : Nat} {rw_ : List D → (Flds → Prop) → Prop} {i : Nat} {env : Env} {da : DA} {ds : List D} {E : DEnds} (h : EvA da env ds) (l : ds.length = n) (f : free env i = true) (k : rw_ ds fun fs => E.nx (env.set i (some (.o (recO C fs))))) : dMkR C n rw_ i da env E :=
  h _ fun _ e => by subst e; exact ⟨l, keepE_refl, f, k⟩
end Lf
set_option Elab.async false
set_option linter.all false
set_option maxRecDepth 100000
set_option maxHeartbeats 4000000
/-! isinstance of a class of one's own; int of a bool; x not in a list of one's own -/
namespace Lf
open PySem PySem.Spec PyProof.Rows L2 RZ
def insB (x : Str) (K : PySem.W.Frag) : Bool :=
  He.eqO (PySem.W.findIn K (.ref (He.ga K x)) "__class__") (some (some (.builtin "object.__class__"))) && (He.eqO (PySem.W.specialIn K (.builtin "object.__class__") "__get__") (some (some (.builtin "getset_descriptor.__get__"))) &&
  (decide (PySem.W.takesIn K (.builtin "object.__class__") = some true) && (decide (PySem.W.mroIn K (He.ga K x) (.type "object") = some true) && decide (PySem.W.kitOne K (.ref (He.ga K x)) (.ref (He.ga K x)) = some true))))
theorem insB_ok {x : Str} {K : PySem.W.Frag} (c : Cls K (He.ga K x)) (h : insB x K = true) : C8.InsC K (He.ga K x) := by
  unfold insB at h
  simp only [Bool.and_eq_true, decide_eq_true_eq] at h
  exact ⟨c, He.eqO_ok h.1, He.eqO_ok h.2.1, h.2.2.1, h.2.2.2.1, h.2.2.2.2⟩
def kndB (K : PySem.W.Frag) : Bool := gcdB K && insB "Kind" K
structure TopI (P : Program) (w : World) (fa : List He.Fa) (fn : List He.DefD) (K : PySem.W.Frag) (mg : Str → Option Value) : Prop extends TopX P w fa fn K mg where
  ins : insB "Kind" K = true
theorem TopI.of {P : Program} {w : World} {fa : List He.Fa} {fn : List He.DefD} {h : Heap} {K : PySem.W.Frag} {mg : Str → Option Value} (X : K.In h) (G : h.Ns mainGlobals mg) (c : He.SaysX fa fn [] [] kndB w h K) : TopI P w fa fn K mg := by
  have m : gcdB K = true ∧ insB "Kind" K = true := by
    have := c.more
    unfold kndB at this
    simpa using this
  exact ⟨⟨c.t.d, fun x hx => He.glo_ok X G (c.t.d.facts hx), fun x hx => He.free_ok X G (c.t.d.facts hx), PySem.W.mg_of X G (He.eqO_ok m.1)⟩, m.2⟩
def rIsC (C : Addr) : List V → Hp → VK → Prop := fun xs H Q => ∃ a dx fs, xs = [.ref a, .ref C] ∧ H a = some (.ins C dx fs) ∧ Q (.bl true) H
def tIsC (C : Addr) (i : Nat) : TE := tCB (rIsC C) (tCons (tVar i) (tCons (tC (.ref C)) tNil))
theorem pe_isC {X : Cx} {e : Expr} {C : Addr} {i : Nat} (h : PE X e (tCB (rIsC C) (tCons (tVar i) (tCons (tC (.ref C)) tNil)))) : PE X e (tIsC C i) := h
def dIsC (C : Addr) (i : Nat) : DE := fun env Q => (∃ fs, env[i]? = some (some (.o (recO C fs)))) ∧ Q (.bl true) env
instance {C : Addr} {i : Nat} : AbsE (tIsC C i) (dIsC C i) := ⟨fun σ Hs Fr H env Q K er sf fh h k => by
  obtain ⟨⟨fs, hw⟩, h⟩ := h
  have er0 := er
  obtain ⟨fp, r⟩ := er
  obtain ⟨v0, hv, _, p, dx, fsV, rfl, h2, _⟩ := r.val hw
  exact ⟨_, hv, p, dx, fsV, rfl, (sf.trans fh) _ _ h2, k _ _ env Hs Fr H er0 (Stp.refl _ _) sf fh (.bl _) h⟩⟩
theorem ev_isC {C : Addr} {i : Nat} {env : Env} {fs : Flds} (h : env[i]? = some (some (.o (recO C fs)))) : Ev (dIsC C i) env (.bl true) := fun Q q => ⟨⟨fs, h⟩, q _ rfl⟩
/-! x not in xs, xs a list of one's own -/
def tNinO (K : PySem.W.Frag) (te : TE) (i : Nat) : TE := tOp (rNotInD K) te (tVar i)
theorem pe_ninO {X : Cx} {K : PySem.W.Frag} {e : Expr} {te : TE} {i : Nat} (h : PE X e (tOp (rNotInD K) te (tVar i))) : PE X e (tNinO K te i) := h
theorem pt_ninO {X : Cx} {K : PySem.W.Frag} {e : Expr} {te : TE} {i : Nat} (h : PT X e (tTest (tOp (rNotInD K) te (tVar i)))) : PT X e (tTest (tNinO K te i)) := h
def dNinO (de : DE) (i : Nat) : DE := fun env Q => de env fun x env1 => ∃ xs, env1[i]? = some (some (.l xs)) ∧ env[i]? = some (some (.l xs)) ∧ shp x ∧ shp (.lst xs) ∧ Q (.bl (!xs.any fun z => dEq z x)) env1
instance {K : PySem.W.Frag} {te : TE} {de : DE} {i : Nat} [he : AbsE te de] : AbsE (tNinO K te i) (dNinO de i) := ⟨fun σ Hs Fr H env Q C er sf fh h k => by
  refine he.run σ Hs Fr H env _ _ er sf fh h fun x a env1 Hs1 Fr1 H1 r1 s1 sf1 fh1 p1 hh => ?_
  obtain ⟨xs, hw, _, h1, h2, hC⟩ := hh
  obtain ⟨p, vs, hp, hl, ra, hf⟩ := r1.own hw
  refine ⟨_, hp, a.toP, D.toPs xs, (p1.mono (sf1.trans fh1)).dp h1.pln, ?_, h1, ?_, ?_⟩
  · have := (Rp.lstA hl (ra.mono (sf1.trans fh1))).dp (K := K) h2.pln
    rw [D.toP] at this; exact this
  · unfold Lf.shp at h2; rw [D.toP] at h2; exact h2
  · refine k _ _ env1 Hs1 Fr1 H1 r1 s1 sf1 fh1 (.bl _) ?_
    rw [any_toPs]; exact hC⟩
theorem ev_ninO {de : DE} {i : Nat} {env : Env} {x : D} {xs : List D} {b : Bool} (h : Ev de env x) (hw : env[i]? = some (some (.l xs))) (h1 : shp x) (h2 : shp (.lst xs)) (e : (!xs.any fun z => dEq z x) = b) : Ev (dNinO de i) env (.bl b) := fun Q q => h _ fun _ e2 => by
  subst e2
  exact ⟨xs, hw, hw, h1, h2, e ▸ q _ rfl⟩
end Lf
set_option Elab.async false
set_option linter.all false
set_option maxRecDepth 100000
set_option maxHeartbeats 4000000
/-! lists of one's own, read and written at a place that is computed; words around walks -/
namespace Lf
open PySem PySem.Spec PyProof.Rows L2 RZ
section
variable {X : Cx} {K : PySem.W.Frag}
theorem pe_wIGet2 {e : Expr} {td ty tx : TE} (h : PE X e (tIGet2 K td ty tx)) : PE X e (tIGet2 K td ty tx) := h
theorem pe_wIGet {e : Expr} {td ty : TE} (h : PE X e (tIGet K td ty)) : PE X e (tIGet K td ty) := h
theorem ps_wIPut {st : Stmt} {td ty tv : TE} (h : PS X st (sIPut K td ty tv)) : PS X st (sIPut K td ty tv) := h
end
def tIxO (K : PySem.W.Frag) (i : Nat) (te : TE) : TE := tOp (fun x y H Q => rIxL K x y H Q ∨ rIxT K x y H Q) (tVar i) te
theorem pe_ixO {X : Cx} {K : PySem.W.Frag} {e : Expr} {i : Nat} {te : TE} (h : PE X e (tOp (fun x y H Q => rIxL K x y H Q ∨ rIxT K x y H Q) (tVar i) te)) : PE X e (tIxO K i te) := h
def dIxO (i : Nat) (de : DE) : DE := fun env Q => (∃ xs, env[i]? = some (some (.l xs))) ∧ de env fun y env1 => ∃ (xs : List D) (k : Nat) (d : D), env1[i]? = some (some (.l xs)) ∧ y = .int (k : Nat) ∧ xs[k]? = some d ∧ Q d env1
instance {K : PySem.W.Frag} {i : Nat} {te : TE} {de : DE} [he : AbsE te de] : AbsE (tIxO K i te) (dIxO i de) := ⟨fun σ Hs Fr H env Q C er sf fh h k => by
  obtain ⟨⟨xs0, h0⟩, h⟩ := h
  obtain ⟨p0, vs0, hp0, _, _, _⟩ := er.own h0
  refine ⟨_, hp0, ?_⟩
  refine he.run σ Hs Fr H env _ _ er sf fh h fun y dy env1 Hs1 Fr1 H1 r1 s1 sf1 fh1 p1 hh => ?_
  obtain ⟨xs, n, d, hw, rfl, hd, hC⟩ := hh
  obtain ⟨p, vs, hp, hl, ra, hf⟩ := r1.own hw
  rw [hp0] at hp
  cases hp
  obtain ⟨v, hv, rv⟩ := ra.atD hd
  exact .inl ⟨p0, vs, _, v, rfl, p1.int_inv, SqL.of hl, atI_nat hv, k v d env1 Hs1 Fr1 H1 r1 s1 sf1 fh1 rv hC⟩⟩
theorem ev_ixO {i k : Nat} {de : DE} {env : Env} {xs : List D} {d : D} (hw : env[i]? = some (some (.l xs))) (h : Ev de env (.int (k : Nat))) (hd : xs[k]? = some d) : Ev (dIxO i de) env d := fun Q q => ⟨⟨xs, hw⟩, h _ fun _ e => by subst e; exact ⟨xs, k, d, hw, rfl, hd, q _ rfl⟩⟩
def tSetOE (i : Nat) (tj te : TE) : TS := tAsg te (gSub (tVar i) tj rSetL)
theorem ps_setOE {X : Cx} {st : Stmt} {i : Nat} {tj te : TE} (h : PS X st (tAsg te (gSub (tVar i) tj rSetL))) : PS X st (tSetOE i tj te) := h
def dSetOE (i : Nat) (dj de : DE) : DS := fun env E => de env fun d env1 => (∃ xs, env1[i]? = some (some (.l xs))) ∧ dj env1 fun y env2 => keepE env env2 ∧ ∃ (xs : List D) (k : Nat), env2[i]? = some (some (.l xs)) ∧ y = .int (k : Nat) ∧ k < xs.length ∧ E.nx (env2.set i (some (.l (xs.set k d))))
instance {i : Nat} {tj te : TE} {dj de : DE} [hj : AbsE tj dj] [ha : AbsE te de] : AbsS (tSetOE i tj te) (dSetOE i dj de) := ⟨fun σ Hs Fr H env D E er sf fh h kn kr kb kc => by
  refine ha.run σ Hs Fr H env _ _ er sf fh h fun v dd env1 Hs1 Fr1 H1 r1 s1 sf1 fh1 rv hc => ?_
  obtain ⟨⟨xs0, h0⟩, hc⟩ := hc
  obtain ⟨p0, vs0, hp0, _, _, _⟩ := r1.own h0
  refine ⟨_, hp0, ?_⟩
  refine hj.run σ Hs1 Fr1 H1 env1 _ _ r1 sf1 fh1 hc fun y dy env2 Hs2 Fr2 H2 r2 s2 sf2 fh2 ry hh => ?_
  obtain ⟨ke, xs, n, hx, rfl, hk, hE⟩ := hh
  obtain ⟨p, vs, hp, hl, ra, hf⟩ := r2.own hx
  rw [hp0] at hp
  cases hp
  obtain ⟨fpf, rf⟩ := r2
  refine ⟨p0, vs, _, n, rfl, ry.int_inv, hl, by rw [ra.1]; exact ixN_nat hk, ?_⟩
  exact kn σ _ Hs2 Fr2 _ ⟨fpf, rf.updL hx hp0 (ra.set n (rv.mono s2.s))⟩ (s1.trans s2) sf2 (same_updF fh2 hf) ((Kp.ofE ke).trans (.setL _ hx)) hE⟩
theorem st_setOE {env : Env} {dj de : DE} {E : DEnds} {i k : Nat} {xs : List D} {d : D} (h : Ev de env d) (hx : env[i]? = some (some (.l xs))) (hj : Ev dj env (.int (k : Nat))) (hk : k < xs.length) (q : E.nx (env.set i (some (.l (xs.set k d))))) : dSetOE i dj de env E :=
  h _ fun _ e => ⟨⟨xs, hx⟩, hj _ fun _ e2 => by subst e e2; exact ⟨keepE_refl, xs, k, hx, rfl, hk, q⟩⟩
end Lf
set_option Elab.async false
set_option linter.all false
set_option maxRecDepth 100000
set_option maxHeartbeats 4000000
/-! xs.extend(ys), ys a list or a tuple -/
namespace PySem
open Sem (wp)
open AutoSeq1
set_option maxRecDepth 8000 in
theorem lf_extend_tuple (l : Addr) (items : Array Value) (n : Nat) (b : Addr) (items2 : Array Value) (n2 : Nat) (dd : Option Addr) (sl : Array (Option Value)) (hs0 : ¬(!items.isEmpty && Builtin.List.listTooLong (items.size + items2.size)) = true) (hs1 : items.size ≤ sizeLine) (hs2 : items.size + items2.size ≤ sizeLine + 1) :
    Meets (Builtin.«list.extend» ⟨[.ref l, .ref b], []⟩) (fun _ R s => s.heap.get? l = some { cls := .type "list", dict := none, data := .seq items n, slots := #[] } ∧ s.heap.get? b = some { cls := .type "tuple", dict := dd, data := .seq items2 n2, slots := sl } ∧ R (.ok (.ret Value.none)) { s with heap := s.heap.update l (Obj.mapSeq fun x => x ++ items2), toks := s.toks }) :=
  .of_wp fun prog w A R s h => by
    obtain ⟨hp, g, d, tk, os⟩ := s; obtain ⟨hl, hb, h⟩ := h; have f1 := idx_int; have f2 := sub_tuple_tuple; have f3 := sub_list_list; have f4 := sub_tuple_list; have f5 := sub_list_tuple;
    have hz' : (items ++ items2).size ≤ sizeLine + 1 := by rw [Array.size_append]; exact hs2
    wp_walk using (wpAny_updateSeq hl rfl (hz := hs1) (_hz' := hz')), wpAny_loadPart' hl, wpAny_loadPart' hb; exact ⟨_, rfl, h⟩
end PySem
namespace Lf
open PySem PySem.Spec PyProof.Rows L2 RZ
def rExtQ : V → List V → Hp → VK → Prop := fun x vs H Q => ∃ l b xs zs, x = .ref l ∧ vs = [.ref b] ∧ H l = some (.lst xs) ∧ (H b = some (.lst zs) ∨ H b = some (.tup zs)) ∧ xs.length + zs.length ≤ sizeLine ∧ Q .non (upd H l (.lst (xs ++ zs)))
theorem mt_extQ {X : Cx} : MtM X "list.extend" rExtQ := by
  intro pins s σ H x vs v us Q I rx rv h
  obtain ⟨l, b, xs, zs, rfl, rfl, hH, hB, hz, q⟩ := h
  rcases hB with hB | hB
  · exact mt_extend pins s σ H _ _ v us Q I rx rv ⟨l, b, xs, zs, rfl, rfl, hH, hB, hz, q⟩
  cases rx
  obtain ⟨u, rfl, ru⟩ := rv.one
  cases ru
  obtain ⟨z, its, n, r, hl, e⟩ := I.lstM hH
  obtain ⟨z2, its2, r2, o, ho, hc, n2, hd⟩ := (show ObjOk X.prog X.w H s.heap b (.tup zs) from I.hok b _ hB)
  have hl2 := r2.length
  obtain ⟨cls, dict, data, slots⟩ := o
  cases hc
  cases hd
  have hsz : its.toArray.size + its2.toArray.size ≤ sizeLine := by rw [List.size_toArray, List.size_toArray]; omega
  have hlong : ¬ (!its.toArray.isEmpty && Builtin.List.listTooLong (its.toArray.size + its2.toArray.size)) = true := by
    rw [notLongL hsz, Bool.and_false]
    exact Bool.false_ne_true
  refine call_meets F.slot_list_extend ⟨_, e, rfl⟩ F.entry_list_extend (F.args_list_extend_2 _ _)
    (lf_extend_tuple l its.toArray n b its2.toArray n2 _ _ hlong (by rw [List.size_toArray]; omega) (by omega)) ⟨e, ho, ?_⟩
  refine ⟨.non, _, I.lset (its' := its ++ its2) hH e (by simp) (r.append r2) ?_, rfl, q⟩
  rw [List.length_append]
  omega
def tExtO (K : PySem.W.Frag) (i : Nat) (te : TE) : TS := tDrop (tBM K "list" rExtQ (tVar i) (tCons te tNil))
theorem ps_extQ {X : Cx} {K : PySem.W.Frag} {st : Stmt} {i : Nat} {te : TE} (h : PS X st (tDrop (tBM K "list" rExtQ (tVar i) (tCons te tNil)))) : PS X st (tExtO K i te) := h
def dExtO (i : Nat) (de : DE) : DS := fun env E => (∃ xs, env[i]? = some (some (.l xs))) ∧ de env fun y env1 => keepE env env1 ∧ ∃ xs ys, env1[i]? = some (some (.l xs)) ∧ y.items? = some ys ∧ xs.length + ys.length ≤ 100000 ∧ E.nx (env1.set i (some (.l (xs ++ ys))))
theorem RpA.app {H : Hp} {vs ws : List V} {xs ys : List D} (r : RpA H vs xs) (q : RpA H ws ys) : RpA H (vs ++ ws) (xs ++ ys) := by
  refine ⟨by rw [List.length_append, List.length_append, r.1, q.1], fun i v d h1 h2 => ?_⟩
  by_cases hi : i < vs.length
  · rw [List.getElem?_append_left hi] at h1
    rw [List.getElem?_append_left (by rw [← r.1]; exact hi)] at h2
    exact r.2 i v d h1 h2
  · rw [List.getElem?_append_right (by omega)] at h1
    rw [List.getElem?_append_right (by rw [← r.1]; omega), ← r.1] at h2
    exact q.2 _ v d h1 h2
theorem items_inv {H : Hp} {v : V} {y : D} {ys : List D} (r : Rp H v y) (e : y.items? = some ys) : ∃ b ws, v = .ref b ∧ (H b = some (.lst ws) ∨ H b = some (.tup ws)) ∧ RpA H ws ys := by
  cases r with
  | lst h l q => cases e; exact ⟨_, _, rfl, .inl h, l, q⟩
  | tup h l q => cases e; exact ⟨_, _, rfl, .inr h, l, q⟩
  | _ => cases e
instance {K : PySem.W.Frag} {i : Nat} {te : TE} {de : DE} [he : AbsE te de] : AbsS (tExtO K i te) (dExtO i de) := ⟨fun σ Hs Fr H env D E er sf fh h kn _ _ _ => by
  obtain ⟨⟨xs0, h0⟩, h⟩ := h
  obtain ⟨p, vs, hp, hl, ra, hf⟩ := er.own h0
  refine ⟨.ref p, hp, Or.inl ⟨rfl, vs, SqL.of hl⟩, ?_⟩
  refine he.run σ Hs Fr H env _ _ er sf fh h fun y d env1 Hs1 Fr1 H1 r1 s1 sf1 fh1 ry h1 => ?_
  obtain ⟨ke, xs, ys, h2, ei, hlt, h1⟩ := h1
  obtain ⟨p', ws, hp', hl', ra', hf'⟩ := r1.own h2
  rw [hp] at hp'
  cases hp'
  obtain ⟨b, zs, rfl, hb, rz⟩ := items_inv ry ei
  have sH := sf1.trans fh1
  refine ⟨p, b, ws, zs, rfl, rfl, hl', hb.imp (sH _ _) (sH _ _), by rw [ra'.1, rz.1]; exact szl hlt, ?_⟩
  obtain ⟨fpf, rf⟩ := r1
  exact kn σ _ Hs1 Fr1 _ ⟨fpf, rf.updL h2 hp (ra'.app rz)⟩ s1 sf1 (same_updF fh1 hf') ((Kp.ofE ke).trans (.setL _ h2)) h1⟩
theorem st_ext {env : Env} {a : DE} {E : DEnds} {i : Nat} {xs ys : List D} {y : D} (h : Ev a env y) (hx : env[i]? = some (some (.l xs))) (e : y.items? = some ys) (l : xs.length + ys.length ≤ 100000) (k : E.nx (env.set i (some (.l (xs ++ ys))))) : dExtO i a env E :=
  ⟨⟨xs, hx⟩, h _ fun _ e2 => by subst e2; exact ⟨keepE_refl, xs, ys, hx, e, l, k⟩⟩
end Lf
set_option Elab.async false
set_option linter.all false
set_option maxRecDepth 100000
set_option maxHeartbeats 4000000
/-! a tuple no times -/
namespace L2
open PySem PySem.Spec PyProof.Rows
theorem tuple_mul0 (l : Addr) (items : Array Value) (n : Nat) (dd : Option Addr) (sl : Array (Option Value)) (u : Tok) (hi : items.isEmpty = false) :
    Meets (Builtin.«tuple.__mul__» ⟨[.ref l, .int 0 u], []⟩) (fun _ R s => s.heap.get? l = some { cls := .type "tuple", dict := dd, data := .seq items n, slots := sl } ∧
      R (.ok (.ret (Value.ref s.heap.objs.size))) { s with heap := s.heap.push { cls := Value.type "tuple", data := Data.seq #[] }, toks := s.toks }) :=
  .of_wp fun P0 w0 A0 R0 st h0 => by
    obtain ⟨hp, gl, dd0, tk, os⟩ := st ; obtain ⟨hl, h⟩ := h0
    have f1 := AutoSeq1.idx_int
    wp_walk using wpAny_loadPart' hl ; repeat (first
      | (refine wpAny_ite_false (by decide) ?_; wp_walk using wpAny_loadPart' hl)
      | (refine wpAny_ite_false (by rw [hi]; decide) ?_; wp_walk using wpAny_loadPart' hl)
      | (refine wpAny_ite_true (by simp) ?_; wp_walk using wpAny_loadPart' hl))
    all_goals first
      | exact ⟨_, rfl, h⟩
      | exact h
/-- tuple * 0 -/
def rRep0 (K : PySem.W.Frag) : R2 := fun x y H Q => ∃ l xs, x = .ref l ∧ y = .int 0 ∧ SqT K H l xs ∧ xs ≠ [] ∧ ∀ p, H p = none → Q (.ref p) (upd H p (.tup []))
section
variable {X : Cx}
theorem op_rep0 : OpR X (binaryOp .Mult) (rRep0 X.K) := by
  intro pins s σ H x y v u Q I rx ry h ; obtain ⟨l, xs, rfl, rfl, hT, hne, q⟩ := h
  cases rx
  obtain ⟨t, rfl⟩ := ry
  obtain ⟨its, r, ⟨⟨cls, dd, data, sl⟩, ho, hc, n, hd⟩, hs⟩ := I.tuple hT ; simp only at hc hd
  subst hc hd
  have hle : its.length = xs.length := r.length.symm
  have hn : its ≠ [] := fun e => hne (by
    rw [e] at hle
    exact List.eq_nil_of_length_eq_zero hle.symm)
  have hi : its.toArray.isEmpty = false := by
    cases its with
    | nil => exact absurd rfl hn
    | cons a b => rfl
  refine wpAny_binaryOp_repeat_ref (T := "tuple") (U := "int") (by decide) ⟨_, ho, rfl⟩ (fun s' => typeIs_int s' 0 t) noFill_tuple_mul F.fills_int_mul F.slot_int_rmul repeat_tuple F.slot_int_index.lookup
    (call_meets F.slot_int_rmul (typeIs_int s 0 t) F.entry_int_rmul (F.args_int_rmul_2 _ _) (int_rmul_tuple 0 t l its.toArray n dd sl)
      ⟨ho, rfl, ⟨_, ho, rfl⟩, call_meets F.slot_tuple_mul ⟨_, ho, rfl⟩ F.entry_tuple_mul (F.args_tuple_mul_2 _ _) (tuple_mul0 l its.toArray n dd sl t hi) ⟨ho, ?_⟩⟩)
  refine ⟨.ref s.heap.objs.size, _, I.laid (t' := s.toks) (o := .tup []) (fun b ob q => Heap.get?_push_of_some _ q) (Nat.le_refl _) ?_, rfl, q _ (I.hok.fresh (Nat.le_refl _))⟩
  exact ⟨Nat.zero_le _, [], .nil, IsTup.new _ _⟩
end
end L2
namespace Lf
open PySem PySem.Spec PyProof.Rows L2 RZ
def rbMul0 (K : PySem.W.Frag) : R2 := fun x y H Q => rbMul K x y H Q ∨ rRep0 K x y H Q
theorem ob_mul0 {X : Cx} : OpR X (binaryOp .Mult) (rbMul0 X.K) := ob_mul.or op_rep0
def dbMul0 : DR2 := fun x y C => dbMul x y C ∨ (∃ xs, x = .tup xs ∧ y = .int 0 ∧ xs ≠ [] ∧ C (.tup []))
instance {K : PySem.W.Frag} : AbsR (rbMul0 K) dbMul0 := ⟨fun Hs Fr H x y a b Q C sf fh px py h k => by
  rcases h with h | ⟨xs, rfl, rfl, hne, h⟩
  · exact .inl (AbsR.run (r := rbMul K) (dr := dbMul) Hs Fr H x y a b Q C sf fh px py h k)
  · obtain ⟨p, vs, rfl, e, q⟩ := px.tup_inv
    refine .inr ⟨p, vs, rfl, py.int_inv, SqT.of ((sf.trans fh) _ _ e), fun z => hne (q.isNil.mp z), fun l hl => ?_⟩
    have g := Gr.new sf fh hl (.tup [])
    exact k _ _ _ _ _ g (.tupA upd_same .nil) h⟩
theorem rv_mul0 {xs : List D} {C : D → Prop} (ne : xs ≠ []) (h : C (.tup [])) : dbMul0 (.tup xs) (.int 0) C := .inr ⟨xs, rfl, rfl, ne, h⟩
theorem rv_mulN {x y : D} {C : D → Prop} (h : dbMul x y C) : dbMul0 x y C := .inl h
end Lf
set_option Elab.async false
set_option linter.all false
set_option maxRecDepth 100000
set_option maxHeartbeats 4000000
/-! a for that forgets given slots at each turn's start; f(Basis(x), ..) -/
namespace Lf
open PySem PySem.Spec PyProof.Rows L2 RZ
def forget : List Nat → Env → Env
  | [], e => e
  | j :: js, e => forget js (e.set j none)
theorem forget_len : ∀ (js : List Nat) (e : Env), (forget js e).length = e.length
  | [], _ => rfl
  | j :: js, e => by rw [forget, forget_len js, List.length_set]
theorem forget_out : ∀ {js : List Nat} {e : Env} {i : Nat}, i ∉ js → (forget js e)[i]? = e[i]?
  | [], _, _, _ => rfl
  | j :: js, e, i, h => by
    have h1 : i ≠ j := fun z => h (by simp [z])
    have h2 : i ∉ js := fun z => h (by simp [z])
    rw [forget, forget_out h2, List.getElem?_set_ne (Ne.symm h1)]
theorem forget_get : ∀ {js : List Nat} {e : Env} {i : Nat} {x : En}, (forget js e)[i]? = some (some x) → e[i]? = some (some x)
  | [], _, _, _, h => h
  | j :: js, e, i, x, h => by
    rw [forget] at h
    have h1 := forget_get h
    by_cases q : j = i
    · subst q
      by_cases l : j < e.length
      · rw [List.getElem?_set_self l] at h1; cases h1
      · rw [List.getElem?_eq_none (by simp; omega)] at h1; cases h1
    · rw [List.getElem?_set_ne q] at h1; exact h1
theorem EnvR.forget {Hs Fr H : Hp} {σ : L2.St} {env : Env} (r : EnvR Hs Fr H σ env) (js : List Nat) : EnvR Hs Fr H σ (forget js env) :=
  let ⟨fp, r⟩ := r
  ⟨fp, r.weak (by rw [forget_len]; exact r.len) fun i e h => ⟨forget_get h, rfl⟩⟩
def tForF (js : List Nat) (wi : TI) (g : TG) (tb : TS) : TS := tFor wi g tb
theorem ps_forF {X : Cx} {st : Stmt} {wi : TI} {g : TG} {tb : TS} (js : List Nat) (h : PS X st (tFor wi g tb)) : PS X st (tForF js wi g tb) := h
def dForF (vs : List Nat) (di : DI) (dg : DG) (b : DS) : DS := fun env E => di env fun xs env1 => keepE env env1 ∧ (∀ j ∈ vs, free env1 j = true) ∧ ∃ W : Nat → Env → Prop, W 0 env1 ∧ ∀ i e, W i e →
  (∀ x, xs[i]? = some x → dg x (forget vs e) fun e2 => b e2 { nx := W (i + 1), ct := W (i + 1), bk := E.nx, rt := E.rt }) ∧ (i = xs.length → E.nx e)
theorem Kp.forget {σ σ' : L2.St} {env env1 e : Env} {vs : List Nat} (k : keepE env env1) (f : ∀ j ∈ vs, free env1 j = true) (p : Kp σ env σ' e) : Kp σ env σ' (forget vs e) := fun i w h => by
  have hi : i ∉ vs := fun z => by
    have h1 := f i z
    obtain ⟨w', h2⟩ := k i w h
    unfold free at h1
    rw [h2] at h1; cases h1
  obtain ⟨h1, w', h2⟩ := p i w h
  exact ⟨h1, w', by rw [forget_out hi]; exact h2⟩
instance {vs : List Nat} {wi : TI} {g : TG} {tb : TS} {di dg js b} [hi : AbsI wi di] [hg : AbsG g dg js] [hb : AbsS tb b] : AbsS (tForF vs wi g tb) (dForF vs di dg b) := ⟨fun σ Hs Fr H env D E er sf fh h kn kr kb kc => by
  refine hi.run σ Hs Fr H env _ _ er sf fh h fun J xs env1 Hs1 Fr1 H1 r1 s1 sf1 fh1 fd h1 => ?_
  obtain ⟨ke, fv, W, w0, hw⟩ := h1
  have p1 : Kp σ env σ env1 := .ofE ke
  refine ⟨fun i m σ' H' => m = xs.length - i ∧ i ≤ xs.length ∧ ∃ e Hs' Fr', EnvR Hs' Fr' H' σ' e ∧ Stp Hs1 Fr1 Hs' Fr' ∧ Same Hs' Fr' ∧ Same Fr' H' ∧ Kp σ env σ' e ∧ W i e, ⟨xs.length, by simp, Nat.zero_le _, env1, Hs1, Fr1, r1, Stp.refl _ _, sf1, fh1, p1, w0⟩, ?_⟩
  rintro i m σ' H' ⟨rfl, hi', e, Hs', Fr', r', s', sf', fh', p', wi⟩
  obtain ⟨hstep, hend⟩ := hw i e wi
  by_cases hlt : i < xs.length
  · refine .inr ⟨fd.go i H' hlt (s'.f.trans fh'), fun σ'' H'' => ∃ e Hs'' Fr'', EnvR Hs'' Fr'' H'' σ'' e ∧ Stp Hs1 Fr1 Hs'' Fr'' ∧ Same Hs'' Fr'' ∧ Same Fr'' H'' ∧ Kp σ env σ'' e ∧ W (i + 1) e, fun σ'' H'' hN => ⟨xs.length - (i + 1), by omega, rfl, hlt, hN⟩, fun x H2 hy => ?_⟩
    obtain ⟨d, Hs2, Fr2, hxd, gr, rx⟩ := fd.yld Hs' Fr' H' i x H2 s'.s s'.f sf' fh' hlt hy
    have p2 : Kp σ env σ' (Lf.forget vs e) := p'.forget ke fv
    refine hg.run x d σ' Hs2 Fr2 H2 (Lf.forget vs e) _ _ ((r'.gr gr).forget vs) gr.sf gr.fh rx (hstep d hxd) fun σ3 e3 r3 k3 f3 l3 h3 => ?_
    have s3 : Stp Hs1 Fr1 Hs2 Fr2 := s'.trans gr.st
    have p3 : Kp σ env σ3 e3 := p2.trans (.ofG k3 f3)
    refine hb.run σ3 Hs2 Fr2 H2 e3 _ _ r3 gr.sf gr.fh h3 ?_ ?_ ?_ ?_
    · exact fun σ4 e4 Hs4 Fr4 H4 r4 s4 sf4 fh4 p4 h4 => ⟨e4, Hs4, Fr4, r4, s3.trans s4, sf4, fh4, p3.trans p4, h4⟩
    · exact fun v d σ4 e4 Hs4 Fr4 H4 r4 s4 sf4 fh4 p4 rv h4 => kr v d σ4 e4 Hs4 Fr4 H4 r4 (s1.trans (s3.trans s4)) sf4 fh4 (p3.trans p4) rv h4
    · exact fun σ4 e4 Hs4 Fr4 H4 r4 s4 sf4 fh4 p4 h4 => kn σ4 e4 Hs4 Fr4 H4 r4 (s1.trans (s3.trans s4)) sf4 fh4 (p3.trans p4) h4
    · exact fun σ4 e4 Hs4 Fr4 H4 r4 s4 sf4 fh4 p4 h4 => ⟨e4, Hs4, Fr4, r4, s3.trans s4, sf4, fh4, p3.trans p4, h4⟩
  · exact .inl ⟨fd.stop i H' (by omega) (s'.f.trans fh'), kn σ' e Hs' Fr' H' r' (s1.trans s') sf' fh' p' (hend (by omega))⟩⟩
theorem st_forF {vs : List Nat} {env : Env} {di : DI} {dg : DG} {b : DS} {E : DEnds} {xs : List D} (W : Nat → Env → Prop) (h : EvI di env xs) (f : ∀ j ∈ vs, free env j = true) (w0 : W 0 env)
    (hs : ∀ i x e, xs[i]? = some x → W i e → dg x (forget vs e) fun e2 => b e2 { nx := W (i + 1), ct := W (i + 1), bk := E.nx, rt := E.rt }) (he : ∀ e, W xs.length e → E.nx e) : dForF vs di dg b env E :=
  h _ fun _ e => by
    subst e
    exact ⟨keepE_refl, f, W, w0, fun i e wi => ⟨fun x hx => hs i x e hx wi, fun hl => he e (hl ▸ wi)⟩⟩
end Lf
set_option Elab.async false
set_option linter.all false
set_option maxRecDepth 100000
set_option maxHeartbeats 4000000
/-! a lambda without parameters as a value: its object is tracked, it may lie in a list and be called later -/
namespace Lf
open PySem PySem.Spec PyProof.Rows L2 LamX
/-- its words, what it captured, its code object -/
structure LW where
  q : Str
  params : Arguments
  body : Expr
  scope : Scope
  cl : List (Str × Addr)
  c : Addr
def LmP (f : Addr) (F : LW) (h : Heap) : Prop :=
  ∃ pm ctv : Value, h.get? f = some (PySem.W.kla_obj "<lambda>" F.q F.params F.body F.scope F.cl pm F.c ctv)
/-- the lambda F stands at f -/
def LmO (f : Addr) (F : LW) : HO := .ext (LmP f F)
theorem lmO_not {f : Addr} {F : LW} (ps : Array Value) : LmO f F ≠ .tbl ps := fun z => by unfold LmO at z; cases z
section
variable {X : Cx} {pins : List (Addr × Obj)} {σ : L2.St} {H : Hp} {s : Shared}
/-- a heap that has grown, then the lambda's object -/
theorem lm_push {F : LW} {h' : Heap} {tk : Nat} {pm ctv : Value} (I : Inv X pins σ H { s with heap := h', toks := tk }) :
    Inv X pins σ (upd H h'.objs.size (LmO h'.objs.size F)) { s with heap := h'.push (PySem.W.kla_obj "<lambda>" F.q F.params F.body F.scope F.cl pm F.c ctv), toks := tk } := by
  have e : (h'.push (PySem.W.kla_obj "<lambda>" F.q F.params F.body F.scope F.cl pm F.c ctv)).get? h'.objs.size = some (PySem.W.kla_obj "<lambda>" F.q F.params F.body F.scope F.cl pm F.c ctv) := Heap.get?_push_size _ rfl
  have J := I.laid (a := h'.objs.size) (o := LmO h'.objs.size F) (t' := tk) (h' := h'.push (PySem.W.kla_obj "<lambda>" F.q F.params F.body F.scope F.cl pm F.c ctv))
    (fun b u q => Heap.get?_push_of_some _ q) (Nat.le_refl _)
    ⟨⟨pm, ctv, e⟩, ⟨_, e⟩, fun h1 h2 ⟨p, t, z⟩ st => ⟨p, t, st _ z⟩⟩
  exact J
/-- the table at P in the heap H: whatever code object it tells bears the name q -/
def TabF (H : Hp) (q : Str) (ps : Array Value) : Prop := TriplesOk ps.toList ∧ ∀ (pos : Pos) (cv : Value), codeAmong pos ps.toList = some cv → ∃ c, cv = .ref c ∧ H c = some (CodeO c q)
/-- what the making of a lambda does: H1 behind H, f the lambda, c' its code object -/
structure LmMade (H : Hp) (P : Addr) (q : Str) (ps : Array Value) (F : Addr → LW) (H1 : Hp) (f c' : Addr) : Prop where
  kept : ∀ b o, b ≠ P → H b = some o → H1 b = some o
  new : H f = none
  at_ : H1 f = some (LmO f (F c'))
  code : H1 c' = some (CodeO c' q)
  seen : H c' = none ∨ ∃ pos, codeAmong pos ps.toList = some (.ref c')
  tab : ∃ ps', H1 P = some (.tbl ps') ∧ TriplesOk ps'.toList ∧ ∀ (pos : Pos) (cv : Value), codeAmong pos ps'.toList = some cv → codeAmong pos ps.toList = some cv ∨ cv = .ref c'
  none_ : ∀ b, b ≠ f → b ≠ c' → H b = none → H1 b = none
/-- «lambda: body»: the object is new and tracked; the table may have grown -/
theorem lm_make {c P : Addr} {ps : Array Value} {params : Arguments} {body : Expr} {scope : Scope} {pos : Pos} {E : Value → Shared → Prop} {Q : Value → Shared → Prop}
    (I : Inv X pins σ H s) (TB : TabB X.base X.mg c P) (hcode : X.env.code = .ref c) (hP : H P = some (.tbl ps)) (hT : TabF H (X.env.qual ++ "<lambda>") ps)
    (hdef : defaultsOf params X.env = ([], [])) (hfree : ∀ y ∈ scope.names, y.2 = .free → ∃ c, X.env.cells.lookup y.1 = some c)
    (h : ∀ (f c' : Addr) (H1 : Hp) (s' : Shared), Inv X pins σ H1 s' → LmMade H P (X.env.qual ++ "<lambda>") ps (fun c' => ⟨X.env.qual ++ "<lambda>", params, body, scope, cloFrom X.env.cells scope.names [], c'⟩) H1 f c' → Q (.ref f) s') :
    wpAny (model X.prog X.w) X.A (eval (.Lambda params body scope pos) X.env) Q E s := by
  obtain ⟨ht, ha⟩ := hT
  apply PySem.W.kla_eval hdef
  have bP := TB.bm.keeps I.bk
  have hP' := I.hok P _ hP
  cases hc : codeAmong pos ps.toList with
  | some cv =>
    obtain ⟨c', e, hco⟩ := ha pos cv hc
    subst e
    apply PySem.W.kla_makeFunctionHit (mg := X.mg) (closure_ok hfree) I.ok.glob (I.mod.glob.keeps I.bk) hcode (TB.code.keeps I.bk) hP' ht hc bP
    intro ctv h' tk hx hsz
    have I1 : Inv X pins σ H { s with heap := h', toks := tk } := I.kept hx
    have nF : H h'.objs.size = none := I1.hok.fresh (Nat.le_refl _)
    have st : ∀ b o, H b = some o → upd H h'.objs.size (LmO h'.objs.size ⟨X.env.qual ++ "<lambda>", params, body, scope, cloFrom X.env.cells scope.names [], c'⟩) b = some o := fun b o e => (upd_ne (ne_of_none e nF)).trans e
    exact h _ c' _ _ (lm_push (F := ⟨X.env.qual ++ "<lambda>", params, body, scope, cloFrom X.env.cells scope.names [], c'⟩) I1)
      ⟨fun b o _ e => st b o e, nF, upd_same, st _ _ hco, .inr ⟨pos, hc⟩, ⟨ps, st _ _ hP, ht, fun _ _ z => .inl z⟩, fun b h1 _ e => (upd_ne h1).trans e⟩
  | none =>
    apply PySem.W.kla_makeFunction (mg := X.mg) (closure_ok hfree) I.ok.glob (I.mod.glob.keeps I.bk) hcode (TB.code.keeps I.bk) hP' ht hc TB.gP bP
    intro c' ctv h' tk hx hge hlt hrec htb
    obtain ⟨c2, oc, vs, t, e2, hoc, hd, hv⟩ := hrec
    cases e2
    have nC : H c' = none := I.hok.fresh hge
    have I1 := inv_table (t' := tk) (more := #[rawInt pos.line, rawInt pos.col, .ref c']) (h' := h') I hP hx htb hge ⟨oc, vs, t, hoc, hd, hv⟩
    generalize hH2 : upd (upd H P (.tbl (ps ++ #[rawInt pos.line, rawInt pos.col, .ref c']))) c' (CodeO c' (X.env.qual ++ "<lambda>")) = H2 at I1
    have atC : H2 c' = some (CodeO c' (X.env.qual ++ "<lambda>")) := by rw [← hH2]; exact upd_same
    have atP : H2 P = some (.tbl (ps ++ #[rawInt pos.line, rawInt pos.col, .ref c'])) := by rw [← hH2, upd_ne (ne_of_none hP nC), upd_same]
    have grown : ∀ b o, b ≠ P → H b = some o → H2 b = some o := fun b o n e => by
      rw [← hH2, upd_ne (ne_of_none e nC), upd_ne n]
      exact e
    have back : ∀ b, H2 b = none → H b = none := fun b e => by
      rw [← hH2] at e
      exact NdefX.upd_none (NdefX.upd_none e)
    have nF : H2 h'.objs.size = none := I1.hok.fresh (Nat.le_refl _)
    have st : ∀ b o, H2 b = some o → upd H2 h'.objs.size (LmO h'.objs.size ⟨X.env.qual ++ "<lambda>", params, body, scope, cloFrom X.env.cells scope.names [], c'⟩) b = some o := fun b o e => (upd_ne (ne_of_none e nF)).trans e
    have eL : (ps ++ #[rawInt pos.line, rawInt pos.col, .ref c']).toList = ps.toList ++ [rawInt pos.line, rawInt pos.col, .ref c'] := by simp
    exact h _ c' _ _ (lm_push (F := ⟨X.env.qual ++ "<lambda>", params, body, scope, cloFrom X.env.cells scope.names [], c'⟩) I1)
      ⟨fun b o n e => st b o (grown b o n e), back _ nF, upd_same, st _ _ atC, .inl nC, ⟨_, st _ _ atP, eL ▸ PySem.TriplesOk_snoc _ _ _ _ ht, fun p' cv hcv => among_app _ ht (eL ▸ hcv)⟩,
        fun b h1 h2 e => by
          rw [upd_ne h1, ← hH2, upd_ne h2]
          by_cases hb : b = P
          · rw [hb, hP] at e
            cases e
          · rw [upd_ne hb]
            exact e⟩
end
/-- the reading of «lambda: body» as a value -/
def tLm (P : Addr) (q : Str) (mk : Addr → LW) : TE := fun σ H Q => ∃ ps, H P = some (.tbl ps) ∧ TabF H q ps ∧ ∀ (f c' : Addr) (H1 : Hp), LmMade H P q ps mk H1 f c' → Q (.ref f) H1
theorem pe_lm {X : Cx} {c P : Addr} {params : Arguments} {body : Expr} {scope : Scope} {pos : Pos} (TB : TabB X.base X.mg c P) (hcode : X.env.code = .ref c) (L : LamS X.env.scope scope) (hdef : defaultsOf params X.env = ([], [])) :
    PE X (.Lambda params body scope pos) (tLm P (X.env.qual ++ "<lambda>") fun c' => ⟨X.env.qual ++ "<lambda>", params, body, scope, cloFrom X.env.cells scope.names [], c'⟩) := by
  refine ⟨fun pins s σ H Q I ⟨ps, h1, h2, h3⟩ => ?_⟩
  exact lm_make I TB hcode h1 h2 hdef (L.has I.ok) fun f c' H1 s' I1 m => ⟨.ref f, H1, I1, rfl, h3 f c' H1 m⟩
end Lf
set_option Elab.async false
set_option linter.all false
set_option maxRecDepth 100000
set_option maxHeartbeats 4000000
/-! a tracked lambda is called in the def that got it -/
namespace Lf
open PySem PySem.Spec PyProof.Rows L2 LamX
/-- some lambdas of one def: words by number -/
structure Lms where
  params : Nat → Arguments
  body : Nat → Expr
  scope : Nat → Scope
abbrev Lms.mk' (M : Lms) (X : Cx) (k : Nat) (c' : Addr) : LW := ⟨X.env.qual ++ "<lambda>", M.params k, M.body k, M.scope k, cloFrom X.env.cells (M.scope k).names [], c'⟩
/-- the value at v is the lambda of number k -/
def IsLm (M : Lms) (X : Cx) (H : Hp) (v : V) (k : Nat) : Prop := ∃ f c', v = .ref f ∧ H f = some (LmO f (M.mk' X k c')) ∧ H c' = some (CodeO c' (X.env.qual ++ "<lambda>"))
section
variable {X : Cx} {pins : List (Addr × Obj)} {σ : L2.St} {H : Hp} {s : Shared}
/-- work(), in the def g that got the lambda; X is the maker's context, I its state when g was called -/
theorem pe_lmact {M : Lms} {kn : Nat} {CXg : CXT} {Eg : XK} {Ng : List Str} {qg : Str} {sg : Scope} {g : Addr} {cdg : Value} {j i : Nat} {a : Str} {pn : List (Addr × Obj)} {xe : Value → Shared → Prop} {W : WX} {tb : Nat → XK → TE} {p1 p2 : Pos}
    (I : Inv X pins σ H s) (L : ∀ k, k < kn → LamS X.env.scope (M.scope k))
    (hbind : ∀ k, k < kn → ∀ (q : Str) (cl : List (Str × Addr)) (pm cv ctv : Value), bindArgs (PySem.W.kla_fn "<lambda>" q (M.params k) (M.body k) (M.scope k) cl pm cv ctv) ⟨[], []⟩ = pure [])
    (tk : Takes ((cxOf CXg X.prog X.w X.K X.mg X.base Ng qg sg g cdg X.A X.stack s H Eg).tr pn xe) W)
    (hr : Room (j + 1) (X.A.deeper (envOfC qg sg s.heap.objs.size g cdg)))
    (hbody : ∀ k, k < kn → ∀ (E : XK) (A : Around) (outer : List PySem.Env) (s1 : Shared) (H : Hp) (f c' : Addr), Room j (A.deeper (lamEnv X (M.scope k) s1.heap.objs.size f c')) → PE (lamCx X A outer s1 H E (M.scope k) f c') (M.body k) (tb k E))
    (hN : Ng[i]? = some a) (hv : Vis sg a) (hd : (a == ("__debug__" : Str)) = false := by decide) (hcd : (a == ("__classdict__" : Str)) = false := by decide) :
    PE ((cxOf CXg X.prog X.w X.K X.mg X.base Ng qg sg g cdg X.A X.stack s H Eg).tr pn xe) (.Call (.Name a p1) [] [] p2)
      (fun σZ HZ Q => ∃ (v : V) (k : Nat) (E : XK), k < kn ∧ σZ[i]? = some (some v) ∧ IsLm M X HZ v k ∧ (∀ cls d H', E cls d H' → W cls d σZ H') ∧ tb k E σ HZ Q) := by
  refine ⟨fun pinsZ sZ σZ HZ Q IZ ⟨v0, k, E, hk, hs, ⟨f, c', e0, hf, hc⟩, hW, ht⟩ => ?_⟩
  subst e0
  apply wpAny_Call_Name_kw
  refine thn ((pe_var (pos := p1) (i := i) hN hv hd hcd).run pinsZ sZ σZ HZ (fun v H1 => v = .ref f ∧ H1 = HZ) IZ ⟨.ref f, hs, rfl, rfl⟩) fun u s1 ⟨v, H1, I1, r1, e1, e2⟩ => ?_
  subst e1
  subst e2
  obtain rfl : u = Value.ref f := r1
  obtain ⟨⟨pm, ctv, of1⟩, _, _⟩ := I1.hok f _ hf
  obtain ⟨⟨oc, vs, t, hoc, hdc, hvc⟩, _, _⟩ := I1.hok c' _ hc
  apply PySem.W.callWith_F0 ⟨_, _, _, _, of1⟩
  have un : Un (frs X.stack) [] H H1 s.heap s1.heap := I1.base
  have rc : codeAny (model X.prog X.w) (X.A.deeper (envOfC qg sg s.heap.objs.size g cdg)) (.call (.ref f) ⟨[], []⟩) (CR (L2.CX X.prog X.w) (envOfC qg sg s.heap.objs.size g cdg :: X.stack) X.prog X.w H1 s1 Q E) s1 := by
    apply PySem.W.kla_callFunE hr.depth of1 rfl (L k hk).co (L k hk).gen rfl ⟨c', oc, vs, t, rfl, hoc, hdc, hvc⟩
    rw [hbind k hk]
    refine wpAny_pure (wpAny_newFunctionEnv (fun y hy => ((L k hk).own y hy).2) (fun y hy => absurd hy (by simp)) (fun h₁ hns hsb => ⟨I1.nolimit.fresh _ hsb, ?_⟩) (L k hk).kind)
    have kp : ∀ b o, s1.heap.get? b = some o → h₁.get? b = some o := fun b o e => hsb.extBut b o (Nat.ne_of_lt (Heap.lt_size e)) (Heap.get?_push_of_some _ e)
    have J : Inv (lamCx X (X.A.deeper (envOfC qg sg s.heap.objs.size g cdg)) (envOfC qg sg s.heap.objs.size g cdg :: X.stack) s1 H1 E (M.scope k) f c') [] σ H1 { s1 with heap := h₁, toks := s1.toks + ([] : List (Str × Value)).length } :=
      lam_start2 I (L k hk) I1.env0 hr.hd un hns kp
    show codeAny _ _ (.expr (M.body k) (lamEnv X (M.scope k) s1.heap.objs.size f c')) _ _
    apply PySem.W.kla_codeExpr
    refine wpAny_mono ((hbody k hk E _ _ s1 H1 f c' (hr.deeper _)).run [] _ _ H1 Q J ht) (fun v s' ⟨w', H', J', rv, q⟩ => ?_) fun e s' hq => hq
    exact ⟨w', H', J'.os, J'.bare, J'.base, J'.hok, rv, q⟩
  refine wpAny_call (codeAny_mono rc fun r s' hq => ?_)
  rcases r with e | fl
  · exact tk e s' (XE.of_call I1 (fun cls d H' h => hW cls d H' h) hq)
  · cases fl with
    | ret u => exact I1.after hq
    | next => exact hq.elim
    | brk => exact hq.elim
    | cont => exact hq.elim
end
end Lf
set_option Elab.async false
set_option linter.all false
set_option maxRecDepth 100000
set_option maxHeartbeats 4000000
/-! try: .. / except C as n: m = n: the caught exception is tracked behind the clause -/
namespace Lf
open PySem PySem.Spec PyProof.Rows L2 LamX
/-- an exception object of the class cls at a, raised or not -/
def ExV (cls : Value) (d : Option Addr) (a : Addr) : HO := .ext fun h => ∃ (oe : Obj) (vs : Array Value), h.get? a = some oe ∧ Zc cls d oe ∧ oe.data = .fields vs
section
variable {X : Cx} {pins : List (Addr × Obj)} {σ : L2.St} {H : Hp} {s : Shared}
/-- an object that was not there at the entry is tracked -/
theorem inv_track {a : Addr} {u : HO} (I : Inv X pins σ H s) (na : H a = none) (n0 : X.s_0.heap.get? a = none) (nL : a ≠ X.env.locals)
    (nC : ∀ x c, X.env.cells.lookup x = some c → c ≠ a) (nP : ∀ p ∈ X.pn ++ pins, p.1 ≠ a) (new : ObjOk X.prog X.w (upd H a u) s.heap a u) : Inv X pins σ (upd H a u) s where
  ok := I.ok
  os := I.os
  bare := I.bare
  base :=
    { keep := I.base.keep
      slot := I.base.slot
      free := fun b o q n hx => by
        have hb : b ≠ a := fun z => by rw [z, n0] at q; cases q
        rw [upd_ne hb]
        exact I.base.free b o q n hx
      there := I.base.there
      tups := fun b xs q => (upd_ne (ne_of_none (I.base.tups b xs q) na)).trans (I.base.tups b xs q)
      frzs := fun b o v q => (upd_ne (ne_of_none (I.base.frzs b o v q) na)).trans (I.base.frzs b o v q)
      tbls := fun b ps q => let ⟨m, z⟩ := I.base.tbls b ps q; ⟨m, (upd_ne (ne_of_none z na)).trans z⟩ }
  loc := I.loc
  cell := I.cell
  free := (upd_ne (Ne.symm nL)).trans I.free
  freeC := fun x c e => (upd_ne (nC x c e)).trans (I.freeC x c e)
  pin := fun p hp => let ⟨e, n, r⟩ := I.pin p hp; ⟨e, (upd_ne (nP p hp)).trans n, r⟩
  hok := I.hok.laidN (fun _ _ q => q) na new
  len := I.len
end
/-- what the clause wishes of an exception of the body; j: the slot that gets it, i: the clause's own name -/
def wKeep (K : PySem.W.Frag) (c : Value) (i j : Nat) (Wout : WX) (D : Ends) : WX := fun cls d σ H =>
  ∃ b, PySem.W.exmOne K cls c = some b ∧ (b = true → ∀ a, H a = none → D.nx (((σ.set i (some (.ref a))).set j (some (.ref a))).set i none) (upd H a (ExV cls d a))) ∧ (b = false → Wout cls d σ H)
section
variable {X : Cx} {x n m : Str} {c : Value} {i j : Nat} {body : List Stmt} {np q1 q2 q3 pos pos' : Pos} {tb : WX → TS} {Wout : WX}
theorem ps_try_keep (hs : X.stack = X.env :: X.outer) (hf : X.env.frame = some X.env.locals) (hN : X.N.Nodup) (hi : X.N[i]? = some n) (hj : X.N[j]? = some m)
    (hln : X.env.kindOf n = some .local) (hex : X.ex = []) (hc : Names X x c) (tk : Takes X Wout)
    (hb : ∀ (W : WX) (pn : List (Addr × Obj)) (xe : Value → Shared → Prop), Takes (X.tr pn xe) W → PassesOwn (model X.prog X.w) X.A X.env xe → PSs (X.tr pn xe) body (tb W))
    (hsu : ∀ (a : Addr) (pn : List (Addr × Obj)), PSs (X.suite a pn) [.Assign [.Name m q1] (.Name n q2) q3] (fun D σ H => σ[i]? = some (some (.ref a)) ∧ D.nx (σ.set j (some (.ref a))) H)) :
    PS X (.Try body [.ExceptHandler (some (.Name x np)) (some n) [.Assign [.Name m q1] (.Name n q2) q3] pos'] [] [] pos) (fun D σ H => tb (wKeep X.K c i j Wout D) D σ H) := by
  constructor
  intro pins s σ H D I h
  have good := I.ok
  have frA : X.A.frames = some (X.env :: X.outer) := good.frames.trans (congrArg some hs)
  have own : Loc X.env.scope n := .inl hln
  apply wpAny_Try_except
  refine wpAny_mono ((hb (wKeep X.K c i j Wout D) (X.pn ++ pins)
      (fun e s₁ => wpAny (model X.prog X.w) X.A (noteFrame e X.env) (fun _ s₂ => wpAny (model X.prog X.w) X.A (setFlight e none)
        (fun _ s₃ => wpAny (model X.prog X.w) X.A (handleBy e X.env [.ExceptHandler (some (.Name x np)) (some n) [.Assign [.Name m q1] (.Name n q2) q3] pos']) (SP X pins D) X.xe s₃) X.xe s₂) X.xe s₁)
      ?_ PassesOwn.looking).run [] s σ H D (I.toTry _) h) ?_ (fun _ _ y => y)
  · rintro _ s' ⟨a, B, sI, pins', σ1, G, cls, d, rfl, J0, below, up, air, na, os, ag, b, test1, yes, no⟩
    have J : Inv X pins σ1 G sI := J0.ofTry good
    have air2 : Sky B (X.env :: X.outer) a (Zc cls d) X.env.locals s'.heap := hs ▸ air
    show wpAny (model X.prog X.w) X.A (noteFrame (.ref a) X.env) _ _ _
    apply Sky.land Zc.steady frA hf air2
    intro h3 fl3 up3
    have J3 : Inv X pins σ1 G { s' with heap := h3 } := J.landed below fl3.1 (up.trans up3) os ag
    obtain ⟨o3, v3, at3, z3, d3⟩ := fl3.there
    have nfr : a ∉ frs (X.env :: X.outer) := fun hm => by
      obtain ⟨_, o', e', hnf⟩ := fl3.2.2.1.mem hm
      rw [at3] at e'
      cases e'
      exact hnf _ d3
    have nL : a ≠ X.env.locals := fun z => nfr (List.mem_filterMap.mpr ⟨X.env, by simp, hf.trans (congrArg some z.symm)⟩)
    have nF : a ∉ X.fs := fun hm => nfr (by
      obtain ⟨e, he, q⟩ := List.mem_filterMap.mp hm
      exact List.mem_filterMap.mpr ⟨e, List.mem_cons_of_mem _ he, q⟩)
    -- the exception is new
    have nI : sI.heap.get? a = none := by
      cases q : sI.heap.get? a with
      | none => rfl
      | some o => exact absurd ((below a o q (hs ▸ nfr)).symm.trans fl3.2.1) (fun z => nomatch z)
    have S3 := J3.suite at3 d3 na nL nF
    refine wpAny_handleBy_cons (codeAny_handlers_test ?_) (fun q => nomatch q)
    have LT : PySem.W.Looks (model X.prog X.w) h3 (typeOf (.ref a)) cls := fun A Q E s k q => wpAny_typeOf_ref (k _ _ at3) (z3.1.symm ▸ q)
    have LM := PySem.W.exm_one (M := model X.prog X.w) (J3.kIn) LT test1
    have seen : ∀ {Q E : Value → Shared → Prop}, Q c { s' with heap := h3 } → wpAny (model X.prog X.w) (X.A.mark (some (.ref a))) (eval (.Name x np) X.env) Q E { s' with heap := h3 } := fun {Q E} q => by
      rcases hc with ⟨hg, hdbg, hm | ⟨hm, hv, hnn⟩⟩
      · exact ld_glob (X := X.suite a ((a, o3) :: (X.pn ++ pins))) S3 hg hm q hdbg
      · exact ld_blt (X := X.suite a ((a, o3) :: (X.pn ++ pins))) S3 hg hm hv q hnn hdbg
    refine seen (LM.here ?_)
    rcases b with _ | _
    · show wpAny _ X.A (handleBy (.ref a) X.env []) _ _ _
      apply wpAny_handleBy_nil
      obtain ⟨k1, k2, k3, oe, vs, T, oT, ts', he, hz, hd, h1, hr⟩ := id fl3
      unfold PySem.passOn
      refine wpAny_bind (wpAny_field he hd h1 ?_)
      rw [if_neg (by simp : ¬ ((Value.ref T == Value.none) = true))]
      have fin : wpAny (model X.prog X.w) X.A (setFlight (.ref a) X.env.frame) (fun _ s4 => wpAny (model X.prog X.w) X.A (throw (.ref a) : Sem Flow) (SP X pins D) X.xe s4) X.xe { s' with heap := h3 } := by
        rw [hf]
        apply HandSPX.setFlight_upZ fl3
        intro h4 hh4 up4
        exact wpAny_throw (tk _ _ ⟨a, B, sI, pins, σ1, G, cls, d, rfl, J, below, (up.trans up3).trans up4, .inr (.inr (hs ▸ hh4)), na, os, ag, no rfl⟩)
      first
        | exact wpAny_bind (wpAny_pure (wpAny_bind fin))
        | exact wpAny_bind fin
    · apply codeAny_handlers_suite_as
      apply HandSPX.lands_againZ fl3
      intro h4 fl4 up4
      have J4 : Inv X pins σ1 G { s' with heap := h4 } := J.landed below fl4.1 ((up.trans up3).trans up4) os ag
      obtain ⟨o4, v4, at4, z4, d4⟩ := fl4.there
      have S4 := J4.suite at4 d4 na nL nF
      refine store_ok (X := X.suite a ((a, o4) :: (X.pn ++ pins))) (v := .ref a) S4 hN hi own rfl (fun s5 S5 => ?_) (.inr hln)
      have hlt : i < σ1.length := by
        rw [J4.len]
        exact (List.getElem?_eq_some_iff.mp hi).1
      refine wpAny_mono ((hsu a ((a, o4) :: (X.pn ++ pins))).run [] s5 _ G { nx := fun σ' H' => σ' = (σ1.set i (some (.ref a))).set j (some (.ref a)) ∧ H' = G, rt := fun _ _ => False } S5 ⟨List.getElem?_set_self hlt, rfl, rfl⟩) (fun f s6 hsp => ?_) (fun _ _ z => z.elim)
      cases f with
      | next =>
        obtain ⟨σ6, H6, S6, q6, q7⟩ := hsp
        subst q6
        subst q7
        obtain ⟨at6, n6, _, _, nc6⟩ := S6.pin (a, o4) (List.mem_append_left _ (by simp))
        have J6 : Inv X ((a, o4) :: pins) _ H6 s6 := (S6.unsuite good).pins_of (pins' := (a, o4) :: pins) fun p hp => by
          rcases List.mem_cons.mp hp with z | z
          · rw [z]
            exact ⟨at6, n6, nL, nF, nc6⟩
          · exact (S6.unsuite good).pin p (List.mem_append_right _ z)
        refine gone_ok J6 hN hi hln fun s7 J7 => ?_
        obtain ⟨at7, _⟩ := J7.pin (a, o4) (List.mem_append_right _ (by simp))
        have K7 : Inv X pins _ H6 s7 := J7.pins_of fun p hp => J7.pin p (List.mem_append_right _ (List.mem_cons_of_mem _ hp))
        have n0 : X.s_0.heap.get? a = none := by
          cases q : X.s_0.heap.get? a with
          | none => rfl
          | some o =>
            obtain ⟨o', z⟩ := J.base.there a o q (by rw [hex]; simp)
            rw [nI] at z
            cases z
        have T7 := inv_track (u := ExV cls d a) K7 na n0 nL (fun x' c' e z => by
            obtain ⟨v, o, ho, _⟩ := J.cell x' c' e
            rw [z, nI] at ho
            cases ho)
          (fun p hp z => by
            obtain ⟨e, _⟩ := J.pin p hp
            rw [z, nI] at e
            cases e)
          ⟨⟨o4, v4, at7, z4, d4⟩, ⟨o4, at7⟩, fun h1 h2 ⟨oe, vs, e, r⟩ st => ⟨oe, vs, st _ e, r⟩⟩
        exact ⟨_, _, T7, yes rfl a na⟩
      | brk => obtain ⟨_, _, _, q⟩ := hsp; exact q.elim
      | cont => obtain ⟨_, _, _, q⟩ := hsp; exact q.elim
      | ret u => obtain ⟨_, _, _, _, _, q⟩ := hsp; exact q.elim
  · intro f s1 hsp
    cases f with
    | next =>
      obtain ⟨σ', H', J', q⟩ := hsp
      exact wpAny_execs_nil ⟨σ', H', J'.ofTry good, q⟩
    | brk =>
      obtain ⟨σ', H', J', q⟩ := hsp
      exact ⟨σ', H', J'.ofTry good, q⟩
    | cont =>
      obtain ⟨σ', H', J', q⟩ := hsp
      exact ⟨σ', H', J'.ofTry good, q⟩
    | ret u =>
      obtain ⟨v, σ', H', J', r, q⟩ := hsp
      exact ⟨v, σ', H', J'.ofTry good, r, q⟩
end
end Lf
set_option Elab.async false
set_option linter.all false
set_option maxRecDepth 100000
set_option maxHeartbeats 4000000
/-! the def that calls what it got and returns the error that it caught, None without -/
namespace Lf
open PySem PySem.Spec PyProof.Rows L2 LamX
/-- what a caught work gives: t is the reading of the lambda's body with its exceptions -/
def Caught (K : PySem.W.Frag) (c : Value) (t : XK → Hp → VK → Prop) (H : Hp) (Q : VK) : Prop :=
  ∃ E : XK, (∀ cls d H', E cls d H' → PySem.W.exmOne K cls c = some true ∧ ∀ a, H' a = none → Q (.ref a) (upd H' a (ExV cls d a))) ∧ t E H fun _ H' => Q .non H'
section
variable {X : Cx} {pins : List (Addr × Obj)} {σ : L2.St} {H : Hp} {s : Shared}
theorem caught_body {M : Lms} {kn j : Nat} {Ng : List Str} {qg a m n x : Str} {sg : Scope} {g : Addr} {cdg : Value} {tb : Nat → XK → TE} {c : Value} {jj : Nat} {z1 z2 z3 p1 p2 p3 p4 p5 p6 p7 p8 q1 q2 q3 : Pos}
    (I : Inv X pins σ H s) (L : ∀ k, k < kn → LamS X.env.scope (M.scope k))
    (hbind : ∀ k, k < kn → ∀ (q : Str) (cl : List (Str × Addr)) (pm cv ctv : Value), bindArgs (PySem.W.kla_fn "<lambda>" q (M.params k) (M.body k) (M.scope k) cl pm cv ctv) ⟨[], []⟩ = pure [])
    (hr : Room (j + 1) (X.A.deeper (envOfC qg sg s.heap.objs.size g cdg)))
    (hbody : ∀ k, k < kn → ∀ (E : XK) (A : Around) (outer : List PySem.Env) (s1 : Shared) (H : Hp) (f c' : Addr), Room j (A.deeper (lamEnv X (M.scope k) s1.heap.objs.size f c')) → PE (lamCx X A outer s1 H E (M.scope k) f c') (M.body k) (tb k E))
    (hNg : Ng = [a, m, n]) (hnd : Ng.Nodup) (va : sg.names.lookup a = some .local) (vm : sg.names.lookup m = some .local) (vn : sg.names.lookup n = some .local) (hge : sg.names.lookup x = some .globalImplicit) (hme : X.mg x = some c)
    (hdx : (x == ("__debug__" : Str)) = false := by decide) (hda : (a == ("__debug__" : Str)) = false := by decide) (hca : (a == ("__classdict__" : Str)) = false := by decide)
    (hdm : (m == ("__debug__" : Str)) = false := by decide) (hcm : (m == ("__classdict__" : Str)) = false := by decide) (hdn : (n == ("__debug__" : Str)) = false := by decide) (hcn : (n == ("__classdict__" : Str)) = false := by decide) :
    ∃ t, PSs (cxOf C8.CX0 X.prog X.w X.K X.mg X.base Ng qg sg g cdg X.A X.stack s H C8.E0).nox
      [.Assign [.Name m z1] (.Constant .none jj z2) z3,
       .Try [.Expr (.Call (.Name a p1) [] [] p2) p3] [.ExceptHandler (some (.Name x p4)) (some n) [.Assign [.Name m q1] (.Name n q2) q3] p5] [] [] p6,
       .Return (some (.Name m p7)) p8] t ∧
      ∀ (v : V) (k : Nat) (H0 : Hp) (Q : VK), k < kn → IsLm M X H0 v k → Caught X.K c (fun E H' Q' => tb k E σ H' Q') H0 Q → t { nx := fun _ H' => Q .non H', rt := Q } (L2.start Ng [v]) H0 := by
  subst hNg
  have i0 : ([a, m, n] : List Str)[0]? = some a := rfl
  have i1 : ([a, m, n] : List Str)[1]? = some m := rfl
  have i2 : ([a, m, n] : List Str)[2]? = some n := rfl
  refine ⟨_, pss_cons (ps_set (i := 1) hnd i1 (.inl vm) pe_non) (pss_cons (ps_try_keep (X := (cxOf C8.CX0 X.prog X.w X.K X.mg X.base [a, m, n] qg sg g cdg X.A X.stack s H C8.E0).nox) (x := x) (i := 2) (j := 1) (c := c)
      (tb := fun W D σZ HZ => ∃ (v : V) (k : Nat) (E : XK), k < kn ∧ σZ[0]? = some (some v) ∧ IsLm M X HZ v k ∧ (∀ cls d H', E cls d H' → W cls d σZ H') ∧ tb k E σ HZ fun _ H' => D.nx σZ H')
      (Wout := fun _ _ _ _ => False) rfl rfl hnd i2 i1 vn rfl ⟨hge, hdx, .inl hme⟩ takes0 (fun W pn xe tk _ => ?_) (fun a' pn => ?_))
      (pss_one (ps_ret (pe_var (i := 1) i1 (.inl vm) hdm hcm)))), fun v k H0 Q hk hv hc => ?_⟩
  · have hp := pe_lmact (CXg := C8.CX0) (Eg := C8.E0) (Ng := [a, m, n]) (qg := qg) (sg := sg) (g := g) (cdg := cdg) (p1 := p1) (p2 := p2) (i := 0) (a := a) (pn := pn) (xe := xe) (W := W) I L hbind tk hr hbody i0 (.inl va) hda hca
    have hq := pss_one (ps_expr (pos := p3) hp)
    exact ⟨fun pins' s' σZ HZ D IZ ⟨v, k, E, h1, h2, h3, h4, h5⟩ => hq.run pins' s' σZ HZ D IZ ⟨v, k, E, h1, h2, h3, h4, h5⟩⟩
  · have hq := pss_one (ps_set (X := ((cxOf C8.CX0 X.prog X.w X.K X.mg X.base [a, m, n] qg sg g cdg X.A X.stack s H C8.E0).nox).suite a' pn) (i := 1) (x := m) (pos' := q1) (pos := q3) hnd i1 (.inl vm) (pe_var (pos := q2) (i := 2) (x := n) i2 (.inl vn) hdn hcn))
    exact ⟨fun pins' s' σZ HZ D IZ ⟨h1, h2⟩ => hq.run pins' s' σZ HZ D IZ ⟨_, h1, h2⟩⟩
  · obtain ⟨E, hE, ht⟩ := hc
    refine ⟨v, k, E, hk, rfl, hv, fun cls d H' h => ?_, ?_⟩
    · obtain ⟨e1, e2⟩ := hE cls d H' h
      exact ⟨true, e1, fun _ b hb => ⟨_, rfl, e2 b hb⟩, fun z => nomatch z⟩
    · refine Eq.mpr (congrArg (tb k E σ H0) ?_) ht
      funext _ H'
      exact propext ⟨fun ⟨w, e, q⟩ => by cases e; exact q, fun q => ⟨_, rfl, q⟩⟩
end
end Lf
set_option Elab.async false
set_option linter.all false
set_option maxRecDepth 100000
set_option maxHeartbeats 4000000
/-! the maker calls the def that catches, on a lambda of its own -/
namespace Lf
open PySem PySem.Spec PyProof.Rows L2 LamX
/-- the reading of x(e), x the def that catches -/
def tCaught (K : PySem.W.Frag) (c : Value) (M : Lms) (X : Cx) (kn : Nat) (tb : Nat → XK → TE) (te : TE) : TE := fun σ H Q =>
  te σ H fun v H1 => ∃ k, k < kn ∧ IsLm M X H1 v k ∧ Caught K c (fun E H' Q' => tb k E σ H' Q') H1 Q
section
variable {X : Cx}
theorem pe_caught {M : Lms} {kn j : Nat} {Ng : List Str} {a m n x r : Str} {sg : Scope} {g : Addr} {pg : Arguments} {dV kV doc pm cdv ct oc : Value} {an od : Option Addr} {osl : Array (Option Value)} {tb : Nat → XK → TE} {te : TE} {e : Expr} {c : Value} {jj : Nat}
    {z1 z2 z3 p1 p2 p3 p4 p5 p6 p7 p8 q1 q2 q3 p pos : Pos} (hg : Gl X x) (hm : X.mg x = some (.ref g)) (hk : PySem.W.keepIn X.K (.ref g) = true)
    (lk : X.K.lookup g = some ⟨oc, od, .func (PySem.W.fnOf x x pg
      [.Assign [.Name m z1] (.Constant .none jj z2) z3,
       .Try [.Expr (.Call (.Name a p1) [] [] p2) p3] [.ExceptHandler (some (.Name r p4)) (some n) [.Assign [.Name m q1] (.Name n q2) q3] p5] [] [] p6,
       .Return (some (.Name m p7)) p8] sg dV kV doc pm an cdv ct), osl⟩)
    (hcg : PySem.W.codeIn X.K cdv x = true)
    (hb : L2.Binds X.K (PySem.W.fnOf x x pg
      [.Assign [.Name m z1] (.Constant .none jj z2) z3,
       .Try [.Expr (.Call (.Name a p1) [] [] p2) p3] [.ExceptHandler (some (.Name r p4)) (some n) [.Assign [.Name m q1] (.Name n q2) q3] p5] [] [] p6,
       .Return (some (.Name m p7)) p8] sg dV kV doc pm an cdv ct) [a] [])
    (Sg : FnScope Ng [a] sg) (hr : Room (j + 2) X.A) (L : ∀ k, k < kn → LamS X.env.scope (M.scope k))
    (hbind : ∀ k, k < kn → ∀ (q : Str) (cl : List (Str × Addr)) (pm cv ctv : Value), bindArgs (PySem.W.kla_fn "<lambda>" q (M.params k) (M.body k) (M.scope k) cl pm cv ctv) ⟨[], []⟩ = pure [])
    (hbody : ∀ k, k < kn → ∀ (E : XK) (A : Around) (outer : List PySem.Env) (s1 : Shared) (H : Hp) (f c' : Addr), Room j (A.deeper (lamEnv X (M.scope k) s1.heap.objs.size f c')) → PE (lamCx X A outer s1 H E (M.scope k) f c') (M.body k) (tb k E))
    (hNg : Ng = [a, m, n]) (hnd : Ng.Nodup) (va : sg.names.lookup a = some .local) (vm : sg.names.lookup m = some .local) (vn : sg.names.lookup n = some .local) (hge : sg.names.lookup r = some .globalImplicit) (hme : X.mg r = some c)
    (he : PE X e te) (hs : starEach [e] X.env = (false, eval e X.env) :: starEach [] X.env := by rfl) (hdb : (x == ("__debug__" : Str)) = false := by decide)
    (hdx : (r == ("__debug__" : Str)) = false := by decide) (hda : (a == ("__debug__" : Str)) = false := by decide) (hca : (a == ("__classdict__" : Str)) = false := by decide)
    (hdm : (m == ("__debug__" : Str)) = false := by decide) (hcm : (m == ("__classdict__" : Str)) = false := by decide) (hdn : (n == ("__debug__" : Str)) = false := by decide) (hcn : (n == ("__classdict__" : Str)) = false := by decide) :
    PE X (.Call (.Name x p) [e] [] pos) (tCaught X.K c M X kn tb te) := by
  refine ⟨fun pins s σ H Q I h => ?_⟩
  apply wpAny_Call_Name_kw
  refine ld_glob I hg hm ?_ hdb
  apply PySem.W.callWith_K (h₀ := X.base) I.ok.mod.kin hk ?_ hs (by rfl)
  rw [hs]
  show wpAny _ _ (spliced ((false, eval e X.env) :: backTo pos (starEach [] X.env))) _ _ s
  refine Calls.spliced_cons (thn (he.run pins s σ H _ I h) fun u s1 ⟨v, H1, I1, r1, k, hk1, hv, hc⟩ => ?_)
  apply Calls.spliced_nil
  refine ⟨I1.kIn, ?_⟩
  obtain ⟨f, c', e0, hf, hcc⟩ := id hv
  subst e0
  obtain rfl : u = Value.ref f := r1
  have rc : codeAny (model X.prog X.w) X.A (.call (.ref g) ⟨[.ref f], []⟩) (CR C8.CX0 X.stack X.prog X.w H1 s1 Q C8.E0) s1 := by
    refine run_ofS (N := Ng) (ps := [a]) (us := [.ref f]) (vs := [.ref f]) lk hcg Sg hr I1.env0 (hb s1 [.ref f] I1.kIn rfl) (.cons rfl .nil) rfl fun hr' => ?_
    obtain ⟨t', ht', hq'⟩ := caught_body (c := c) (z1 := z1) (z2 := z2) (z3 := z3) (p1 := p1) (p2 := p2) (p3 := p3) (p4 := p4) (p5 := p5) (p6 := p6) (p7 := p7) (p8 := p8) (q1 := q1) (q2 := q2) (q3 := q3) (jj := jj) (x := r) (qg := x) (cdg := cdv)
      I1 L hbind hr' hbody hNg hnd va vm vn hge hme hdx hda hca hdm hcm hdn hcn
    exact ⟨t', ht'.nox, hq' _ k H1 Q hk1 hv hc⟩
  refine wpAny_call (codeAny_mono rc fun r s2 hq => ?_)
  rcases r with e | fl
  · exact (show False from hq).elim
  · cases fl with
    | ret u => exact I1.after hq
    | next => exact hq.elim
    | brk => exact hq.elim
    | cont => exact hq.elim
end
end Lf
set_option Elab.async false
set_option linter.all false
set_option maxRecDepth 100000
set_option maxHeartbeats 4000000
/-! a caught error: isinstance, its attributes -/
namespace Lf
open PySem PySem.Spec PyProof.Rows L2 LamX
/-- the caught error at a, of the class D, with its attributes -/
def IsEx (H : Hp) (a D : Addr) (fs : Option (List (Str × V))) : Prop := ∃ d, H a = some (ExV (.ref D) d a) ∧ match fs with
  | none => d = none
  | some l => ∃ dd, d = some dd ∧ H dd = some (.xd l)
theorem isEx_inst {X : Cx} {pins : List (Addr × Obj)} {σ : L2.St} {H : Hp} {s : Shared} {a D : Addr} {fs : Option (List (Str × V))} (I : Inv X pins σ H s) (h : IsEx H a D fs) :
    ∃ oe od, PySem.W.InstAt s.heap a oe D od ∧ (∀ l, fs = some l → ∃ (o : Obj) (mA : Str → Option Value), od = some o ∧ (∀ f, RelO (l.lookup f) (mA f)) ∧ ∀ f, PySem.W.lookIn f o = some (mA f)) := by
  obtain ⟨d, ha, hd⟩ := h
  obtain ⟨⟨oe, vs, at_, hz, hv⟩, _, _⟩ := I.hok a _ ha
  have nc : PySem.W.notCls oe = true := by unfold PySem.W.notCls; rw [hv] <;> rfl
  cases fs with
  | none =>
    subst hd
    exact ⟨oe, none, ⟨at_, hz.1, nc, by rw [hz.2]; trivial⟩, fun l z => nomatch z⟩
  | some l =>
    obtain ⟨dd, e, hx⟩ := hd
    subst e
    obtain ⟨mA, hns, hr⟩ := (show ObjOk X.prog X.w H s.heap dd (.xd l) from I.hok dd _ hx)
    obtain ⟨o, ho, hl⟩ := lookIn_ns hns
    refine ⟨oe, some o, ⟨at_, hz.1, nc, by rw [hz.2]; exact ho⟩, fun l' z => ?_⟩
    cases z
    exact ⟨o, mA, rfl, hr, hl⟩
/-- isinstance(e, c), e a tracked error -/
def rIsV (K : PySem.W.Frag) : List V → Hp → VK → Prop := fun xs H Q => ∃ (a D : Addr) (fs : Option (List (Str × V))) (c : V) (cv : Value) (b : Bool), xs = [.ref a, c] ∧ IsEx H a D fs ∧ ExcC K D ∧ (∀ u, RelV c u → u = cv) ∧ PySem.W.kitOne K (.ref D) cv = some b ∧ Q (.bl b) H
theorem call_isV {X : Cx} : CallR X (.builtin "isinstance") (rIsV X.K) := by
  intro pins s σ H xs us Q I r h
  obtain ⟨a, D, fs, c, cv, b, rfl, ha, C, hcv, e, q⟩ := h
  obtain ⟨oe, od, J, _⟩ := isEx_inst I ha
  rcases r with _ | ⟨rx, rr⟩
  rcases rr with _ | ⟨rt, rr⟩
  rcases rr with _ | _
  cases rx
  have ec := hcv _ rt
  subst ec
  obtain ⟨cd, hcd, _⟩ := PySem.W.any_some C.hd
  exact PySem.W.kia_one (PySem.W.kitx_exc (by rw [hcd]; rfl) C.hg C.hk C.hs C.ha C.hn C.ht C.hm) I.kIn J e (fun z => nomatch z) fun tk => ⟨.bl b, H, I.kept (t' := tk) fun _ _ z => z, rfl, q⟩
/-- e.f, e a tracked error of the class D -/
def tXv (D : Addr) (f : Str) (te : TE) : TE := fun σ H Q => te σ H fun x H1 => ∃ (a : Addr) (fs : List (Str × V)) (v : V), x = .ref a ∧ IsEx H1 a D (some fs) ∧ fs.lookup f = some v ∧ Q v H1
theorem pe_xv {X : Cx} {D : Addr} {e : Expr} {te : TE} {pos : Pos} {n : Str} (T : XfC X.K D) (hno : PySem.W.findIn X.K (.ref D) n = some none) (he : PE X e te) (hb : attributeBase e n X.env (eval e X.env) = eval e X.env := by rfl) :
    PE X (.Attribute e n pos) (tXv D n te) := by
  refine ⟨fun pins s σ H Q I h => ?_⟩
  refine attr_of hb (thn (he.run pins s σ H _ I h) fun u s1 ⟨x, H1, I1, rx, a, fs, v, ex, hx, l, q⟩ => ?_)
  subst ex
  obtain rfl : u = Value.ref a := rx
  obtain ⟨oe, od, J, hl⟩ := isEx_inst I1 hx
  obtain ⟨o, mA, e1, e2, e3⟩ := hl fs rfl
  subst e1
  obtain ⟨u, hu, ru⟩ := RelO.some_of (v := v) (o := mA n) (by rw [← l]; exact e2 n)
  exact HandSPX.exc_get I1.kIn J T.ga T.gg T.exC (PySem.W.findObj_own T.hdC hno rfl (by rw [e3, hu])) (handed_of ru) ⟨v, H1, I1.tok _, ru, q⟩
end Lf
set_option Elab.async false
set_option linter.all false
set_option maxRecDepth 100000
set_option maxHeartbeats 4000000
/-! exceptions of one's own as data, made, not raised -/
namespace Lf
open PySem PySem.Spec PyProof.Rows L2 LamX
theorem exV_ok {P : Program} {w : World} {H : Hp} {h : Heap} {a : Addr} {cls : Value} {d : Option Addr} {oe : Obj} {vs : Array Value} (e : h.get? a = some oe) (z : Zc cls d oe) (hd : oe.data = .fields vs) : ObjOk P w H h a (ExV cls d a) :=
  ⟨⟨oe, vs, e, z, hd⟩, ⟨oe, e⟩, fun _ _ ⟨o, v, q, r⟩ k => ⟨o, v, k o q, r⟩⟩
theorem inv_gens {X : Cx} {pins : List (Addr × Obj)} {σ : L2.St} {H : Hp} {s s' : Shared} (I : Inv X pins σ H s) (hh : s'.heap = s.heap) (ho : s'.os = s.os) (hb : AllBare s'.gens) : Inv X pins σ H s' := by
  obtain ⟨h1, g1, d1, t1, o1⟩ := s
  obtain ⟨h2, g2, d2, t2, o2⟩ := s'
  dsimp only at hh ho hb
  subst hh ho
  exact ⟨I.ok, I.os, hb, I.base, I.loc, I.cell, I.free, I.freeC, I.pin, I.hok, I.len⟩
/-- what makes an exception, as an expression: the exception is tracked -/
def tEx (t : L2.St → Hp → XK → Prop) : TE := fun σ H Q => t σ H fun cls d H1 => ∀ a, H1 a = none → Q (.ref a) (upd H1 a (ExV cls d a))
theorem pe_of_mk {X : Cx} {e : Expr} {t : L2.St → Hp → XK → Prop} (h : PMk X e t) : PE X e (tEx t) := by
  refine ⟨fun pins s σ H Q I q => thn (h pins s σ H _ I q) fun u s' hu => ?_⟩
  obtain ⟨a, oe, vs, sI, H', cls, d, rfl, J, k, hne, ha, hz, hd, h1, na, os, ag, r, qq⟩ := hu
  have J2 := J.laidN (t' := s'.toks) k hne na (exV_ok ha hz hd)
  exact ⟨.ref a, _, inv_gens J2 rfl os ag, rfl, qq a na⟩
/-- C(e), C without an __init__ of its own -/
def tMk1 (C : Addr) (ta : TE) : L2.St → Hp → XK → Prop := fun σ H Q => ta σ H fun _ H1 => Q (.ref C) none H1
/-- an error of the class D with its attributes, as data -/
theorem IsEx.mono {Hs Hs' : Hp} {a D : Addr} {fs : Option (List (Str × V))} (h : IsEx Hs a D fs) (s : Same Hs Hs') : IsEx Hs' a D fs := by
  obtain ⟨d, h1, h2⟩ := h
  refine ⟨d, s _ _ h1, ?_⟩
  cases fs with
  | none => exact h2
  | some l =>
    obtain ⟨dd, e, h3⟩ := h2
    exact ⟨dd, e, s _ _ h3⟩
def excD (D : Addr) (fs : Option (List (Str × V))) : OpD where
  at_ := fun Hs v => ∃ a, v = .ref a ∧ IsEx Hs a D fs
  mono := fun s ⟨a, e, h⟩ => ⟨a, e, h.mono s⟩
  ref := fun ⟨a, e, _⟩ => ⟨a, e⟩
/-- .. whose attribute f is the data x -/
def exaD (C : Addr) (f : Str) (x : D) : OpD where
  at_ := fun Hs v0 => ∃ a v, v0 = .ref a ∧ IsEx Hs a C (some [(f, v)]) ∧ Rp Hs v x
  mono := fun s ⟨a, v, e, h, r⟩ => ⟨a, v, e, h.mono s, r.mono s⟩
  ref := fun ⟨a, _, e, _⟩ => ⟨a, e⟩
/-- data that is an error of the class D -/
def IsOf (φ : OpD) (D : Addr) : Prop := ∀ Hs v, φ.at_ Hs v → ∃ a fs, v = .ref a ∧ IsEx Hs a D fs
theorem isOf_exc {D : Addr} {fs : Option (List (Str × V))} : IsOf (excD D fs) D := fun _ _ ⟨a, e, h⟩ => ⟨a, fs, e, h⟩
theorem isOf_exa {D : Addr} {f : Str} {y : Lf.D} : IsOf (exaD D f y) D := fun _ _ ⟨a, v, e, h, _⟩ => ⟨a, _, e, h⟩
def dExc (C : Addr) (de : DE) : DE := fun env Q => de env fun _ env1 => Q (.op (excD C none)) env1
instance {C : Addr} {te : TE} {de : DE} [he : AbsE te de] : AbsE (tEx (tMk1 C te)) (dExc C de) := ⟨fun σ Hs Fr H env Q Cc r sf fh h k => by
  refine he.run σ Hs Fr H env _ _ r sf fh h fun v d env1 Hs1 Fr1 H1 r1 s1 sf1 fh1 rv hc a na => ?_
  have g := Gr.new sf1 fh1 na (ExV (.ref C) none a)
  exact k _ _ env1 _ _ _ (r1.gr g) (s1.trans g.st) g.sf g.fh (.op (excD C none) ⟨a, rfl, none, upd_same, rfl⟩) hc⟩
theorem ev_exc {C : Addr} {de : DE} {env : Env} {x : D} (h : Ev de env x) : Ev (dExc C de) env (.op (excD C none)) := fun Q q => h _ fun _ e => by subst e; exact q _ rfl
/-! an __init__ that keeps its one parameter -/
def iniSp (K : PySem.W.Frag) (f : Str) : Sp := fun vs H Q _ => ∃ (a C : Addr) (v : V), vs = [.ref a, v] ∧ OexC K C ∧ PySem.W.findIn K (.ref C) f = some none ∧ H a = some (exo a C none) ∧
  ∀ dx, H dx = none → dx ≠ a → Q .non (upd (upd H dx (exd dx [(f, v)])) a (exo a C (some dx)))
theorem ini_pure {K : PySem.W.Frag} {f : Str} {vs : List V} {H : Hp} {Q : VK} {E : XK} (h : iniSp K f vs H Q E) : tOst K f (tVar 0) (tVar 1) { nx := fun _ H' => Q .non H', rt := Q } (start ["self", f] vs) H := by
  obtain ⟨a, C, v, rfl, T, hno, ea, k⟩ := h
  exact ⟨v, rfl, .ref a, rfl, a, C, rfl, T, hno, .inl ⟨ea, fun dx n ne => k dx n ne⟩⟩
def dExa (K : PySem.W.Frag) (C : Addr) (f : Str) (de : DE) : DE := fun env Q => de env fun x env1 => OexC K C ∧ PySem.W.findIn K (.ref C) f = some none ∧ Q (.op (exaD C f x)) env1
theorem exa_env {K : PySem.W.Frag} {C : Addr} {f : Str} {σ : L2.St} {env1 : Env} {v : V} {x : D} {Hs1 Fr1 H1 : Hp} {Q : VK} {Cc : D → Env → Prop} (r1 : EnvR Hs1 Fr1 H1 σ env1) (sf1 : Same Hs1 Fr1) (fh1 : Same Fr1 H1) (rv : Rp Hs1 v x)
    (hc : OexC K C ∧ PySem.W.findIn K (.ref C) f = some none ∧ Cc (.op (exaD C f x)) env1)
    (kk : ∀ v d env' Hs' Fr' H', EnvR Hs' Fr' H' σ env' → Stp Hs1 Fr1 Hs' Fr' → Same Hs' Fr' → Same Fr' H' → Rp Hs' v d → Cc d env' → Q v H') :
    ∀ a, H1 a = none → iniSp K f [.ref a, v] (upd H1 a (exo a C none)) (fun u H2 => u = .non ∧ ∃ (d : Addr) (fs : List (Str × V)), H2 a = some (exo a C (some d)) ∧ H2 d = some (exd d fs) ∧ H1 d = none ∧
      ∀ b, (upd (del H2 a) d (.xd fs)) b = none → Q (.ref b) (upd (upd (del H2 a) d (.xd fs)) b (ExV (.ref C) (some d) b))) (fun _ _ _ => False) := by
  intro a na
  refine ⟨a, C, v, rfl, hc.1, hc.2.1, upd_same, fun dx n ne => ⟨rfl, dx, [(f, v)], upd_same, by rw [upd_ne ne]; exact upd_same, by rw [upd_ne ne] at n; exact n, fun b nb => ?_⟩⟩
  have nx : H1 dx = none := by rw [upd_ne ne] at n; exact n
  have eq : upd (del (upd (upd (upd H1 a (exo a C none)) dx (exd dx [(f, v)])) a (exo a C (some dx))) a) dx (.xd [(f, v)]) = upd H1 dx (.xd [(f, v)]) := by
    funext c
    by_cases q : c = dx
    · subst q; rw [upd_same, upd_same]
    · rw [upd_ne q, upd_ne q]
      by_cases q2 : c = a
      · subst q2; rw [del_same, na]
      · rw [del_ne q2, upd_ne q2, upd_ne q, upd_ne q2]
  rw [eq] at nb ⊢
  have g1 := Gr.new sf1 fh1 nx (.xd [(f, v)])
  have g2 := Gr.new g1.sf g1.fh nb (ExV (.ref C) (some dx) b)
  have g := g1.trans g2
  refine kk _ _ env1 _ _ _ (r1.gr g) g.st g.sf g.fh (.op (exaD C f x) ⟨b, v, rfl, ⟨some dx, upd_same, dx, rfl, ?_⟩, rv.mono g.st.s⟩) hc.2.2
  have : dx ≠ b := fun z => by rw [← z, upd_same] at nb; cases nb
  rw [upd_ne this]; exact upd_same
instance {K : PySem.W.Frag} {C : Addr} {f : Str} {te : TE} {de : DE} [he : AbsE te de] : AbsE (tEx (tMkO C (iniSp K f) [] (tCons te tNil))) (dExa K C f de) := ⟨fun σ Hs Fr H env Q Cc r sf fh h k => by
  refine he.run σ Hs Fr H env _ _ r sf fh h fun v x env1 Hs1 Fr1 H1 r1 s1 sf1 fh1 rv hc => ?_
  refine ⟨by show 1 ≤ 1000; decide, fun a na => ?_⟩
  exact exa_env r1 sf1 fh1 rv hc (fun v d env' Hs' Fr' H' r' st' sf' fh' rp c => k v d env' Hs' Fr' H' r' (s1.trans st') sf' fh' rp c) a na⟩
theorem ev_exa {K : PySem.W.Frag} {C : Addr} {f : Str} {de : DE} {env : Env} {x : D} (h : Ev de env x) (T : OexC K C) (hn : PySem.W.findIn K (.ref C) f = some none) : Ev (dExa K C f de) env (.op (exaD C f x)) := fun Q q => h _ fun _ e => by subst e; exact ⟨T, hn, q _ rfl⟩
/-! isinstance(e, c); e.f -/
def tIsW (K : PySem.W.Frag) (c : V) (te : TE) : TE := tCB (rIsV K) (tCons te (tCons (tC c) tNil))
theorem pe_isW {X : Cx} {e : Expr} {K : PySem.W.Frag} {c : V} {te : TE} (h : PE X e (tCB (rIsV K) (tCons te (tCons (tC c) tNil)))) : PE X e (tIsW K c te) := h
def dIsW (K : PySem.W.Frag) (c : V) (de : DE) : DE := fun env Q => de env fun x env1 => ∃ φ D cv b, x = .op φ ∧ IsOf φ D ∧ ExcC K D ∧ (∀ u, RelV c u → u = cv) ∧ PySem.W.kitOne K (.ref D) cv = some b ∧ Q (.bl b) env1
instance {K : PySem.W.Frag} {c : V} {te : TE} {de : DE} [he : AbsE te de] : AbsE (tIsW K c te) (dIsW K c de) := ⟨fun σ Hs Fr H env Q Cc r sf fh h kk => by
  refine he.run σ Hs Fr H env _ _ r sf fh h fun v d env1 Hs1 Fr1 H1 r1 s1 sf1 fh1 rv ⟨φ, D, cv, b, e, ho, hD, hcv, hb, hc⟩ => ?_
  subst e
  have hx : φ.at_ Hs1 v := by
    cases rv with
    | op _ z => exact z
  obtain ⟨a, fs, ev, hx2⟩ := ho _ _ hx
  subst ev
  exact ⟨a, D, fs, c, cv, b, rfl, hx2.mono (sf1.trans fh1), hD, hcv, hb, kk _ _ env1 Hs1 Fr1 H1 r1 s1 sf1 fh1 (.bl b) hc⟩⟩
theorem ev_isW {K : PySem.W.Frag} {c : V} {cv : Value} {D : Addr} {b : Bool} {φ : OpD} {de : DE} {env : Env} (h : Ev de env (.op φ)) (ho : IsOf φ D) (hD : ExcC K D) (hcv : ∀ u, RelV c u → u = cv) (hb : PySem.W.kitOne K (.ref D) cv = some b) : Ev (dIsW K c de) env (.bl b) :=
  fun Q q => h _ fun _ e2 => by subst e2; exact ⟨φ, D, cv, b, rfl, ho, hD, hcv, hb, q _ rfl⟩
def dXa (D : Addr) (f : Str) (de : DE) : DE := fun env Q => de env fun x env1 => ∃ y, x = .op (exaD D f y) ∧ Q y env1
instance {D : Addr} {f : Str} {te : TE} {de : DE} [he : AbsE te de] : AbsE (tXv D f te) (dXa D f de) := ⟨fun σ Hs Fr H env Q Cc r sf fh h kk => by
  refine he.run σ Hs Fr H env _ _ r sf fh h fun v d env1 Hs1 Fr1 H1 r1 s1 sf1 fh1 rv ⟨y, e, hc⟩ => ?_
  subst e
  obtain ⟨a, u, ev, hx, ru⟩ : (exaD D f y).at_ Hs1 v := by
    cases rv with
    | op _ z => exact z
  subst ev
  exact ⟨a, [(f, u)], u, rfl, hx.mono (sf1.trans fh1), by simp [List.lookup], kk _ _ env1 Hs1 Fr1 H1 r1 s1 sf1 fh1 ru hc⟩⟩
theorem ev_xa {D : Addr} {f : Str} {y : Lf.D} {de : DE} {env : Env} (h : Ev de env (.op (exaD D f y))) : Ev (dXa D f de) env y := fun Q q => h _ fun _ e2 => by subst e2; exact ⟨y, rfl, q _ rfl⟩
/-! small dicts as data -/
def dkv : List (Str × D) → List V → List (Key × V)
  | k :: ks, u :: us => (Sum.inr k.1, u) :: dkv ks us
  | _, _ => []
def dctD (ks : List (Str × D)) : OpD where
  at_ := fun Hs v => ∃ (a : Addr) (us : List V), v = .ref a ∧ Hs a = some (.dK (dkv ks us)) ∧ RpA Hs us (ks.map Prod.snd)
  mono := fun s ⟨a, us, e, h, r⟩ => ⟨a, us, e, s _ _ h, r.mono s⟩
  ref := fun ⟨a, _, e, _⟩ => ⟨a, e⟩
def dDNew : DE := fun env Q => Q (.op (dctD [])) env
instance : AbsE tDNewK dDNew := ⟨fun σ Hs Fr H env Q Cc r sf fh h k => fun p np => by
  have g := Gr.new sf fh np (.dK [])
  exact k _ _ env _ _ _ (r.gr g) g.st g.sf g.fh (.op (dctD []) ⟨p, [], rfl, upd_same, .nil⟩) h⟩
theorem ev_dNew {env : Env} : Ev dDNew env (.op (dctD [])) := fun Q q => q _ rfl
def dDOne (x : Str) (de : DE) : DE := fun env Q => de env fun d env1 => Q (.op (dctD [(x, d)])) env1
instance {x : Str} {te : TE} {de : DE} [he : AbsE te de] : AbsE (tDisp [(tC (.str x), te)]) (dDOne x de) := ⟨fun σ Hs Fr H env Q Cc r sf fh h k => fun p np => by
  have nf : Fr p = none := none_of fh np
  have ns : Hs p = none := none_of sf nf
  have g0 : EnvR Hs (upd Fr p (.dK [])) (upd H p (.dK [])) σ env := by
    obtain ⟨fp, rf⟩ := r
    exact ⟨fp, rf.frz (Same.refl _) (rf.not (.inr np)) (fun a ha => upd_ne ha) fun a ha h => by rw [upd_ne ha]; exact h⟩
  refine he.run σ Hs (upd Fr p (.dK [])) (upd H p (.dK [])) env _ _ g0 (same_upd sf ns) (same_upd2 fh) h fun v d env1 Hs1 Fr1 H1 r1 s1 sf1 fh1 rv hc => ?_
  have fp1 : Fr1 p = some (.dK []) := s1.f _ _ upd_same
  have sp1 : Hs1 p = none := s1.sep p (by rw [upd_same]; exact fun z => by cases z) ns
  refine ⟨fh1 _ _ fp1, [(Sum.inr x, v)], rfl, by show 1 ≤ 15; decide, ?_⟩
  show Q (.ref p) (upd H1 p (.dK [(Sum.inr x, v)]))
  obtain ⟨fp, rf⟩ := r1
  have ss : Same Hs1 (upd Hs1 p (.dK [(Sum.inr x, v)])) := same_upd (Same.refl _) sp1
  refine k _ _ env1 (upd Hs1 p (.dK [(Sum.inr x, v)])) (upd Fr1 p (.dK [(Sum.inr x, v)])) _ ⟨fp, rf.frz ss (rf.not (.inl (by rw [fp1]; exact fun z => by cases z))) (fun a ha => upd_ne ha) fun a ha h => by rw [upd_ne ha]; exact h⟩ ⟨s1.s.trans ss, fun a o ha => ?_, fun a h1 h2 => ?_⟩ (same_upd2 sf1) (same_upd2 fh1) (.op (dctD [(x, d)]) ⟨p, [v], rfl, upd_same, .cons (rv.mono ss) .nil⟩) hc
  · have : a ≠ p := fun z => by rw [z, nf] at ha; cases ha
    rw [upd_ne this]
    exact s1.f a o (by rw [upd_ne this]; exact ha)
  · have : a ≠ p := fun z => h1 (by rw [z]; exact nf)
    rw [upd_ne this]
    exact s1.sep a (by rw [upd_ne this]; exact h1) h2⟩
theorem ev_dOne {x : Str} {de : DE} {env : Env} {d : D} (h : Ev de env d) : Ev (dDOne x de) env (.op (dctD [(x, d)])) := fun Q q => h _ fun _ e => by subst e; exact q _ rfl
end Lf
set_option Elab.async false
set_option linter.all false
set_option maxRecDepth 100000
set_option maxHeartbeats 4000000
/-! C(f = e), C an exception class of one's own with an __init__ -/
namespace Lf
open PySem PySem.Spec PySem.Calls PyProof.Rows L2 LamX
section
variable {Mo : Model} {Ar : Around} {Er : Value → Shared → Prop} {hp : Heap} {gs : Array GenState} {dr : Drawn} {tk : Nat} {ost : OsState}
variable {cn qn : Str} {Ca Na : Addr} {bss bml bmB : List Value} {hdc : Bool} {sln : List Str} {subs : List Value} {abx : Bool} {clx : Option Bool} {ddx : Option Addr} {s0 s1 s2 s3 s5 : Option Value} {Bn newI initI : String}
theorem kwe_check (F : ExcBaseFacts Bn newI initI bmB) (hT : ∀ X : String, bml.contains (.type X) = bmB.contains (.type X)) {rest : List Value} {kws : List (Str × Value)} {Qn : Unit → Shared → Prop}
    (hC : hp.get? Ca = some (excClassObj cn qn Ca Na bss bml hdc sln subs abx clx ddx s0 s1 s2 s3 s5 newI)) (hq : Qn () ⟨hp, gs, dr, tk, ost⟩) : wpAny Mo Ar (checkBuiltinCall newI ⟨.ref Ca :: rest, kws⟩) Qn Er ⟨hp, gs, dr, tk, ost⟩ := by
  have hin : (Value.ref Ca :: bml).contains (.type Bn) = true := by
    rw [List.contains_cons, hT, F.hasB, Bool.or_true]
  have hst := F.noStar
  simp only [checkBuiltinCall, F.newKind, F.newSplit, F.newRow]
  repeat (first
    | refine wpAny_loadPart_at hC ?_
    | (refine wpAny_isSubtype_exc hC ?_
       rw [hin])
    | refine wpAny_staticBase_exc hC ?_
    | refine wpAny_madeBy_exc hC ?_
    | simp only [bne_self_eq_false, Bool.false_eq_true, if_false]
    | wp_step)
  exact hq
end
section
variable {pg : Program} {wo : World} {Ar : Around} {Er : Value → Shared → Prop} {Rs : Result → Shared → Prop} {hp : Heap} {gs : Array GenState} {dr : Drawn} {tk : Nat} {ost : OsState}
variable {cn qn : Str} {Ca Na : Addr} {bss bml bmB : List Value} {hdc : Bool} {sln : List Str} {subs : List Value} {abx : Bool} {clx : Option Bool} {ddx : Option Addr} {s0 s1 s2 s3 s5 : Option Value} {Bn newI initI : String}
open PySem.HandSPX
theorem kwe_new (F : ExcBaseFacts Bn newI initI bmB) (hT : ∀ X : String, bml.contains (.type X) = bmB.contains (.type X)) {rest : List Value} {kws : List (Str × Value)}
    (hC : hp.get? Ca = some (excClassObj cn qn Ca Na bss bml hdc sln subs abx clx ddx s0 s1 s2 s3 s5 newI)) (hl : rest.length ≤ sizeLine)
    (hq : Rs (.ok (.ret (.ref (hp.objs.size + 1)))) ⟨(hp.push (PySem.W.kdv_tup rest)).push (excO Ca hp.objs.size), gs, dr, tk, ost⟩) :
    codeAny (model pg wo) Ar (.builtin newI ⟨.ref Ca :: rest, kws⟩) Rs ⟨hp, gs, dr, tk, ost⟩ := by
  have hends := F.ends
  have hin : (Value.ref Ca :: bml).contains (.type Bn) = true := by
    rw [List.contains_cons, hT, F.hasB, Bool.or_true]
  have hinA : (Value.ref Ca :: bml).contains (.type "AttributeError") = false := by
    rw [List.contains_cons, hT, F.noAttr]
    rfl
  have hinN : (Value.ref Ca :: bml).contains (.type "NameError") = false := by
    rw [List.contains_cons, hT, F.noName]
    rfl
  refine codeAny_builtinAt F.entry ?_
  unfold Builtin.«BaseException.__new__»
  refine PySem.wpAt_bind ?_
  show PySem.wpAt _ _ _ (stack >>= _) _ _ _
  refine PySem.wpAt_bind (PySem.wpAt_stack fun p below => PySem.wpAt_of_wpAny ?_)
  wp_walk
  refine PySem.wpAt_of_wpAny ?_
  rw [F.owner]
  repeat (first
    | with_reducible refine wpAny_madeHere_exc F.canon hC ?_
    | with_reducible refine wpAny_loadPart_at hC ?_
    | (with_reducible refine wpAny_isSubtype_exc hC ?_
       first
       | rw [hin]
       | rw [hinA]
       | rw [hinN])
    | wp_step)
  show Rs _ _
  rw [Heap.size_push]
  exact hq
theorem kwe_type (F : ExcBaseFacts Bn newI initI bmB) (hT : ∀ X : String, bml.contains (.type X) = bmB.contains (.type X)) {rest : List Value} {kws : List (Str × Value)} {fI : Addr} {Qn : Fin → Shared → Prop}
    (hC : hp.get? Ca = some (excClassObj cn qn Ca Na bss bml hdc sln subs abx clx ddx s0 s1 s2 s3 s5 newI))
    (hi : PySem.W.Looks (model pg wo) hp (typeLookup (.ref Ca) "__init__") (some (.ref fI))) (hb : ∀ self, PySem.W.Looks (model pg wo) hp (bindSpecial (.ref fI) self) (.ref fI, [self])) (hl : rest.length ≤ sizeLine)
    (hq : codeAny (model pg wo) Ar (.call (.ref fI) ⟨.ref (hp.objs.size + 1) :: rest, kws⟩)
      (fun r s' => match r with | .ok (.ret v) => v = .none ∧ Qn (.done (.ret (.ref (hp.objs.size + 1)))) s' | .ok _ => False | .error e => Er e s')
      ⟨(hp.push (PySem.W.kdv_tup rest)).push (excO Ca hp.objs.size), gs, dr, tk, ost⟩) :
    wpAny (model pg wo) Ar (Builtin.«type.__call__» ⟨.ref Ca :: rest, kws⟩) Qn Er ⟨hp, gs, dr, tk, ost⟩ := by
  repeat (first
    | with_reducible refine wpAny_loadPart_at hC ?_
    | with_reducible refine wpAny_madeBy_exc hC ?_
    | wp_step)
  refine codeAny_call_builtin_code (Code.quiet_builtin _ F.quiet) (kwe_check F hT hC ?_)
  refine kwe_new F hT hC hl ?_
  show wpAny _ _ _ _ _ _
  have kk : ∀ b o, hp.get? b = some o → ((hp.push (PySem.W.kdv_tup rest)).push (excO Ca hp.objs.size)).get? b = some o := fun b o z => Heap.get?_push_of_some _ (Heap.get?_push_of_some _ z)
  have hC2 := kk _ _ hC
  have hg : ((hp.push (PySem.W.kdv_tup rest)).push (excO Ca hp.objs.size)).get? (hp.objs.size + 1) = some (excO Ca hp.objs.size) := by heap_get
  have hself : (Value.ref Ca :: bml).contains (.ref Ca) = true := by simp
  have i2 := hi.keeps kk
  have b2 := (hb (.ref (hp.objs.size + 1))).keeps kk
  unfold isInstance
  repeat (first
    | with_reducible refine wpAny_loadPart_at hg ?_
    | (with_reducible refine wpAny_isSubtype_exc hC2 ?_
       rw [hself])
    | wp_step)
  show wpAny _ _ (typeLookup (.ref Ca) _) _ _ _
  refine i2.at ?_
  refine wpAny_holding (wpAny_bind (b2.at ?_))
  refine wpAny_bind (wpAny_call (codeAny_mono hq fun r s' z => ?_))
  cases r with
  | error er => exact z
  | ok fl =>
    cases fl with
    | ret v =>
      obtain ⟨rfl, z⟩ := z
      first
        | exact wpAny_pure (wpAny_pure z)
        | (wp_walk; exact z)
    | next => exact z.elim
    | brk => exact z.elim
    | cont => exact z.elim
theorem kwe_call (F : ExcBaseFacts Bn newI initI bmB) (hT : ∀ X : String, bml.contains (.type X) = bmB.contains (.type X)) {rest : List Value} {kws : List (Str × Value)} {fI : Addr}
    (hC : hp.get? Ca = some (excClassObj cn qn Ca Na bss bml hdc sln subs abx clx ddx s0 s1 s2 s3 s5 newI))
    (hi : PySem.W.Looks (model pg wo) hp (typeLookup (.ref Ca) "__init__") (some (.ref fI))) (hb : ∀ self, PySem.W.Looks (model pg wo) hp (bindSpecial (.ref fI) self) (.ref fI, [self])) (hl : rest.length ≤ sizeLine)
    (hq : codeAny (model pg wo) (Ar.under (.builtin "type.__call__" ⟨.ref Ca :: rest, kws⟩)) (.call (.ref fI) ⟨.ref (hp.objs.size + 1) :: rest, kws⟩) (PySem.W.InitBack (hp.objs.size + 1) Rs)
      ⟨(hp.push (PySem.W.kdv_tup rest)).push (excO Ca hp.objs.size), gs, dr, tk, ost⟩) :
    codeAny (model pg wo) Ar (.call (.ref Ca) ⟨rest, kws⟩) Rs ⟨hp, gs, dr, tk, ost⟩ := by
  have f1 := tc_lookup
  have f2 := tc_bind (.ref Ca)
  have hTy : (⟨hp, gs, dr, tk, ost⟩ : Shared).TypeIs (.ref Ca) "type" := ⟨_, hC, rfl⟩
  refine codeAny_of_tree ?_
  show wpAny _ _ (callAny (.ref Ca) _) _ _ _
  repeat (any_goals (first
    | assumption
    | with_reducible refine wpAny_loadPart_at hC ?_
    | wp_step))
  refine ⟨rfl, ?_⟩
  refine codeAny_call_builtin_at (Code.quiet_builtin _ (by decide +kernel)) entry_typeCall (wpAny_check_type_call_sub hC (kwe_type F hT hC hi hb hl ?_))
  refine codeAny_mono hq fun r s' z => ?_
  cases r with
  | error er => exact z
  | ok fl =>
    cases fl with
    | ret v => exact z
    | next => exact z
    | brk => exact z
    | cont => exact z
end
end Lf
set_option Elab.async false
set_option linter.all false
set_option maxRecDepth 100000
set_option maxHeartbeats 4000000
/-! repr([a, b]), a and b plain data or small dicts -/
namespace Lf
open PySem PySem.Spec PyProof.Rows L2 RZ
/-- what may be told: plain data, {} and {x: data of tuples and ints alone} -/
def Tll (K : PySem.W.Frag) (H : Hp) (v : V) (d : PyData) : Prop :=
  (Dp K H v d ∧ d.hasDict = false) ∨ (∃ a, v = .ref a ∧ H a = some (.dK []) ∧ d = .dict []) ∨
  ∃ (a b : Addr) (x : Str) (i : Int), v = .ref a ∧ H a = some (.dK [(Sum.inr x, .ref b)]) ∧ SqT K H b [.int i] ∧ d = .dict [(.str x, .tuple [.int i])]
theorem tll_reads {X : Cx} {pins : List (Addr × Obj)} {σ : L2.St} {H : Hp} {s : Shared} (I : Inv X pins σ H s) {v : V} {u : Value} {d : PyData} (h : Tll X.K H v d) (r : RelV v u) :
    ∃ as, Reads s.heap u d as ∧ (d.hasDict = true → sysModules ∉ as) := by
  rcases h with ⟨h, hn⟩ | ⟨a, rfl, h, rfl⟩ | ⟨a, b, x, i, rfl, h, hb, rfl⟩
  · obtain ⟨as, rd⟩ := Dp.reads I d v u h r
    exact ⟨as, rd, fun z => by rw [hn] at z; cases z⟩
  · obtain rfl : u = Value.ref a := r
    obtain ⟨_, ns, vs, kv, o, es, ep, h1, h2, h3, _, h5, _⟩ := dk_of I.hok h
    cases kv
    have e : es.toList = [] := by
      cases q : es.toList with
      | nil => rfl
      | cons e l => rw [q] at h5; cases h5
    refine ⟨_, .dict h1 h2.1 h3 (by rw [e]; exact .nil) (by rw [e]; exact .nil), fun _ z => ?_⟩
    have : sysModules = a := by simpa using z
    rw [← this] at ns
    simp at ns
  · obtain rfl : u = Value.ref a := r
    obtain ⟨_, ns, vs, kv, o, es, ep, h1, h2, h3, _, h5, _⟩ := dk_of I.hok h
    cases kv with
    | @cons p q ps qs hpq t =>
      cases t
      obtain ⟨k, w⟩ := q
      obtain ⟨hk, hw⟩ := hpq
      dsimp only at hk hw
      subst hk
      obtain ⟨e, he, ke, ve⟩ : ∃ e, es.toList = [e] ∧ (mixKind X.prog X.w).is (Sum.inr x) e.key = true ∧ e.val = w := by
        cases q : es.toList with
        | nil => rw [q] at h5; cases h5
        | cons e l =>
          rw [q] at h5
          cases h5 with
          | cons g1 g2 g3 => cases g3; exact ⟨e, rfl, g1, g2⟩
      obtain rfl : w = Value.ref b := hw
      have kk : ∃ t, e.key = .str x t := by
        have ke' : keyIs (Sum.inr x) e.key = true := ke
        rcases keyIs_shape ke' with ⟨i, t, z, _⟩ | ⟨y, t, z, e2⟩
        · cases z
        · cases z; exact ⟨t, e2⟩
      obtain ⟨t, kk⟩ := kk
      obtain ⟨its, rv, ⟨ot, ho, hc, n, hd⟩, _⟩ := I.tuple hb
      obtain ⟨j, rfl⟩ : ∃ j, its = [.int i j] := by
        cases rv with
        | cons r1 r2 =>
          cases r2
          obtain ⟨j, z⟩ := r1
          exact ⟨j, by rw [z]⟩
      have rt : Reads s.heap (.ref b) (.tuple [.int i]) [] := .tuple ho hc hd (by
        have : ReadsAll s.heap [.int i j] [.int i] ([] ++ []) := .cons (.int i j) .nil
        simpa using this)
      refine ⟨a :: ([] ++ []) ++ ([] ++ []), .dict h1 h2.1 h3 ?_ ?_, fun _ z => ?_⟩
      · rw [he]
        show ReadsAll s.heap [e.key] [.str x] ([] ++ [])
        rw [kk]
        exact .cons (.str x t) .nil
      · rw [he]
        show ReadsAll s.heap [e.val] [.tuple [.int i]] ([] ++ [])
        rw [ve]
        exact .cons rt .nil
      · have : sysModules = a := by simpa using z
        rw [← this] at ns
        simp at ns
/-- [a, b], of a list that is not sys.modules -/
def tLstF (t : TA) : TE := fun σ H Q => t σ H fun xs H1 => xs.length ≤ sizeLine ∧ ∀ p, H1 p = none → p ≠ sysModules → Q (.ref p) (upd H1 p (.lst xs))
theorem pe_lstF {X : Cx} {es : List Expr} {t : TA} {pos : Pos} (ha : PA X es t) : PE X (.List es pos) (tLstF t) := by
  refine ⟨fun pins s σ H Q I hq => wpAny_List_spliced (thn (ha.run pos pins s σ H _ I hq) fun us s1 ⟨xs, H1, I1, r, z, q⟩ => ⟨by rw [← r.length]; exact z, ?_⟩)⟩
  have hf : H1 s1.heap.objs.size = none := I1.hok.fresh (Nat.le_refl _)
  have big := I1.big
  have J := I1.laid (a := s1.heap.objs.size) (o := .lst xs) (h' := s1.heap.push { cls := .type "list", data := .seq us.toArray }) (t' := s1.toks) (fun b u e => Heap.get?_push_of_some _ e) (Nat.le_refl _) ⟨z, us, 0, r, Heap.get?_push_size _ rfl⟩
  exact ⟨.ref s1.heap.objs.size, _, J, rfl, q _ hf (fun e => by rw [e] at big; exact Nat.lt_irrefl _ big)⟩
def rReprP (K : PySem.W.Frag) : List V → Hp → VK → Prop := fun xs H Q => ∃ (p : Addr) (v1 v2 : V) (d : PyData), xs = [.ref p] ∧ p ≠ sysModules ∧ H p = some (.lst [v1, v2]) ∧ Tll K H v1 d ∧ Tll K H v2 d ∧
  (PyData.list [d, d]).showable = true ∧ (PyData.list [d, d]).depth ≤ 60 ∧ (PyData.list [d, d]).shown.length ≤ sizeLine ∧ Q (.str (PyData.list [d, d]).shown) H
theorem cl_reprP {X : Cx} (hg : X.A.guards = some []) (hu : X.A.units + 64 < cLine) : CallR X (.builtin "repr") (rReprP X.K) := by
  intro pins s σ H xs us Q I r h
  obtain ⟨p, v1, v2, d, rfl, np, hp, t1, t2, hs, hdp, hz, q⟩ := h
  obtain rfl := Vals.ref1 r
  obtain ⟨its, rv, ⟨o, n, ho, hc, _, hd⟩, _⟩ := I.list (SqL.of hp)
  cases rv with
  | @cons _ u1 _ _ r1 rr =>
    cases rr with
    | @cons _ u2 _ _ r2 rr =>
      cases rr
      obtain ⟨as, g1, n1⟩ := tll_reads I t1 r1
      obtain ⟨bs, g2, n2⟩ := tll_reads I t2 r2
      have rd : Reads s.heap (.ref p) (.list [d, d]) (p :: (as ++ (bs ++ []))) := .list ho hc hd (.cons g1 (.cons g2 .nil))
      refine PySem.repr_of_reads' rd hs (fun hh => ?_) hg (by omega) (fun _ _ e => e) (fun h' u tk hk => ⟨.str _, H, I.kept (t' := tk) hk, ⟨_, rfl⟩, q⟩) hz
      have hd2 : d.hasDict = true := by
        have : (d.hasDict || (d.hasDict || false)) = true := by
          simpa only [PyData.hasDict, PyData.hasDictAll] using hh
        simpa using this
      have := n1 hd2
      have := n2 hd2
      simp [Ne.symm np, *]
/-- what the data is told as -/
def ShD (K : PySem.W.Frag) (x : D) (d : PyData) : Prop := ∀ Hs H v, Rp Hs v x → Same Hs H → Tll K H v d
theorem shD_pln {K : PySem.W.Frag} {x : D} (h : x.toP.hasDict = false) : ShD K x x.toP := fun Hs H v r s => .inl ⟨(r.mono s).dp h, h⟩
theorem shD_nil {K : PySem.W.Frag} : ShD K (.op (dctD [])) (.dict []) := fun Hs H v r s => by
  have hx : (dctD []).at_ Hs v := by
    cases r with
    | op _ z => exact z
  obtain ⟨a, us, rfl, h, _⟩ := hx
  exact .inr (.inl ⟨a, rfl, s _ _ (by
    have e0 : dkv [] us = [] := by cases us <;> rfl
    rw [e0] at h; exact h), rfl⟩)
theorem shD_one {K : PySem.W.Frag} {x : Str} {i : Int} : ShD K (.op (dctD [(x, .tup [.int i])])) (.dict [(.str x, .tuple [.int i])]) := fun Hs H v r s => by
  have hx : (dctD [(x, .tup [.int i])]).at_ Hs v := by
    cases r with
    | op _ z => exact z
  obtain ⟨a, us, rfl, h, ra⟩ := hx
  obtain ⟨u, rfl, ru⟩ := RpA.one (d := .tup [.int i]) (by simpa using ra)
  obtain ⟨b, ws, rfl, hb, rw'⟩ := ru.tup_inv
  obtain ⟨w, rfl, rw2⟩ := rw'.one
  obtain rfl := rw2.int_inv
  exact .inr (.inr ⟨a, b, x, i, rfl, s _ _ (by simpa [dkv] using h), SqT.of (s _ _ hb), rfl⟩)
def tReprP (K : PySem.W.Frag) (ta tb : TE) : TE := tCB (rReprP K) (tCons (tLstF (tCons ta (tCons tb tNil))) tNil)
theorem pe_reprP {X : Cx} {e : Expr} {K : PySem.W.Frag} {ta tb : TE} (h : PE X e (tCB (rReprP K) (tCons (tLstF (tCons ta (tCons tb tNil))) tNil))) : PE X e (tReprP K ta tb) := h
def dReprP (K : PySem.W.Frag) (da db : DE) : DE := fun env Q => da env fun x env1 => db env1 fun y env2 => ∃ d, ShD K x d ∧ ShD K y d ∧ (PyData.list [d, d]).showable = true ∧ (PyData.list [d, d]).depth ≤ 60 ∧ (PyData.list [d, d]).shown.length ≤ sizeLine ∧ Q (.str (PyData.list [d, d]).shown) env2
instance {K : PySem.W.Frag} {ta tb : TE} {da db : DE} [ha : AbsE ta da] [hb : AbsE tb db] : AbsE (tReprP K ta tb) (dReprP K da db) := ⟨fun σ Hs Fr H env Q Cc r sf fh h kk => by
  refine ha.run σ Hs Fr H env _ _ r sf fh h fun v x env1 Hs1 Fr1 H1 r1 s1 sf1 fh1 rv h1 => ?_
  refine hb.run σ Hs1 Fr1 H1 env1 _ _ r1 sf1 fh1 h1 fun u y env2 Hs2 Fr2 H2 r2 s2 sf2 fh2 ru h2 => ?_
  obtain ⟨d, hx, hy, a1, a2, a3, hc⟩ := h2
  refine ⟨by show 2 ≤ sizeLine; decide, fun p hp np => ?_⟩
  have g := Gr.new sf2 fh2 hp (.lst [v, u])
  have sm : Same Hs2 (upd H2 p (.lst [v, u])) := (sf2.trans fh2).trans g.h
  exact ⟨p, v, u, d, rfl, np, upd_same, hx Hs2 _ v (rv.mono s2.s) sm, hy Hs2 _ u ru sm, a1, a2, a3, kk _ _ env2 _ _ _ (r2.gr g) ((s1.trans s2).trans g.st) g.sf g.fh (.str _) hc⟩⟩
theorem ev_reprP {K : PySem.W.Frag} {da db : DE} {env : Env} {x y : D} {d : PyData} (ha : Ev da env x) (hb : Ev db env y) (hx : ShD K x d) (hy : ShD K y d) (a1 : (PyData.list [d, d]).showable = true) (a2 : (PyData.list [d, d]).depth ≤ 60) (a3 : (PyData.list [d, d]).shown.length ≤ sizeLine) :
    Ev (dReprP K da db) env (.str (PyData.list [d, d]).shown) := fun Q q => ha _ fun _ e1 => by
  subst e1
  exact hb _ fun _ e2 => by subst e2; exact ⟨d, hx, hy, a1, a2, a3, q _ rfl⟩
end Lf
set_option Elab.async false
set_option linter.all false
set_option maxRecDepth 100000
set_option maxHeartbeats 4000000
/-! what the head says of exception classes -/
namespace Lf
open PySem PySem.Spec PyProof.Rows L2 RZ
def veTl : List Value := [.type "ValueError", .type "Exception", .type "BaseException", .type "object"]
/-- the class at C lies directly below the one at R, which lies below ValueError -/
def mroB (K : PySem.W.Frag) (R C : Addr) : Bool := match PySem.W.clsIn K C with
  | some cd => decide (cd.mro = .ref C :: .ref R :: veTl)
  | none => false
def mroR (K : PySem.W.Frag) (R : Addr) : Bool := match PySem.W.clsIn K R with
  | some cd => decide (cd.mro = .ref R :: veTl)
  | none => false
def tyB (K : PySem.W.Frag) (C : Addr) : Bool := decide (PySem.W.typeIn K (.ref C) = some (.type "type"))
theorem mroB_ok {K : PySem.W.Frag} {R C : Addr} (h : mroB K R C = true) : ∃ cd, PySem.W.clsIn K C = some cd ∧ cd.mro = .ref C :: .ref R :: veTl := by
  unfold mroB at h
  split at h
  · next cd e => exact ⟨cd, e, of_decide_eq_true h⟩
  · cases h
theorem mroR_ok {K : PySem.W.Frag} {R : Addr} (h : mroR K R = true) : ∃ cd, PySem.W.clsIn K R = some cd ∧ cd.mro = .ref R :: veTl := by
  unfold mroR at h
  split at h
  · next cd e => exact ⟨cd, e, of_decide_eq_true h⟩
  · cases h
theorem kit_of {K : PySem.W.Frag} {D C : Addr} {cd : ClassData} {l : List Value} {b : Bool} (h : PySem.W.clsIn K D = some cd) (hm : cd.mro = .ref D :: l) (hc : (PySem.W.clsIn K C).isSome = true) (ht : tyB K C = true) (hb : (decide (C = D) || l.contains (.ref C)) = b) :
    PySem.W.kitOne K (.ref D) (.ref C) = some b := by
  have ht := of_decide_eq_true ht
  unfold PySem.W.kitOne
  by_cases e : D = C
  · subst e
    rw [if_pos (by simp)]
    have : b = true := by rw [← hb]; simp
    rw [this]
  · have e1 : (Value.ref D == Value.ref C) = false := by
      apply Bool.eq_false_iff.mpr
      intro z
      exact e (Value.ref.inj (beq_iff_eq.mp z))
    rw [e1, if_neg Bool.false_ne_true]
    show (if ((PySem.W.clsIn K C).isSome && PySem.W.typeIn K (.ref C) == some (.type "type")) = true then PySem.W.subIn K (.ref D) (.ref C) else none) = some b
    rw [hc, ht, if_pos (by simp)]
    show PySem.W.mroIn K D (.ref C) = some b
    unfold PySem.W.mroIn
    rw [h, Option.bind_some, hm, if_neg (by simp), List.contains_cons]
    have e2 : (Value.ref C == Value.ref D) = decide (C = D) := by
      by_cases q : C = D
      · subst q; simp
      · rw [decide_eq_false q]
        apply Bool.eq_false_iff.mpr
        intro z
        exact q (Value.ref.inj (beq_iff_eq.mp z))
    rw [e2, hb]
theorem kit_ve {K : PySem.W.Frag} {D : Addr} {cd : ClassData} {l : List Value} (h : PySem.W.clsIn K D = some cd) (hm : cd.mro = .ref D :: l) (hl : l.contains (.type "ValueError") = true) : PySem.W.kitOne K (.ref D) (.type "ValueError") = some true := by
  unfold PySem.W.kitOne
  have e1 : (Value.ref D == Value.type "ValueError") = false := by
    apply Bool.eq_false_iff.mpr
    intro z
    have := beq_iff_eq.mp z
    cases this
  rw [e1, if_neg Bool.false_ne_true]
  show (if PySem.W.kitMeta "ValueError" = true then PySem.W.subIn K (.ref D) (.type "ValueError") else none) = some true
  rw [if_pos (by decide +kernel)]
  show PySem.W.mroIn K D (.type "ValueError") = some true
  unfold PySem.W.mroIn
  rw [h, Option.bind_some, hm, if_neg (by simp), List.contains_cons, hl, Bool.or_true]
/-- what isinstance must know of a class of errors -/
def excCB (K : PySem.W.Frag) (D : Addr) : Bool :=
  He.eqO (PySem.W.findIn K (.ref D) "__getattribute__") (some (some (.builtin "BaseException.__getattribute__"))) && (He.eqO (PySem.W.findIn K (.ref D) "__getattr__") (some none) &&
  (decide (PySem.W.subIn K (.ref D) (.type "BaseException") = some true) && (PySem.W.hasDictIn K D && (He.eqO (PySem.W.findIn K (.ref D) "__class__") (some (some (.builtin "object.__class__"))) &&
  (He.eqO (PySem.W.specialIn K (.builtin "object.__class__") "__get__") (some (some (.builtin "getset_descriptor.__get__"))) && (decide (PySem.W.takesIn K (.builtin "object.__class__") = some true) && decide (PySem.W.mroIn K D (.type "object") = some true)))))))
theorem excCB_ok {K : PySem.W.Frag} {D : Addr} (h : excCB K D = true) : ExcC K D := by
  unfold excCB at h
  simp only [Bool.and_eq_true, decide_eq_true_eq] at h
  exact ⟨He.eqO_ok h.1, He.eqO_ok h.2.1, h.2.2.1, h.2.2.2.1, He.eqO_ok h.2.2.2.2.1, He.eqO_ok h.2.2.2.2.2.1, h.2.2.2.2.2.2.1, h.2.2.2.2.2.2.2⟩
theorem excCB_xf {K : PySem.W.Frag} {D : Addr} (h : excCB K D = true) : XfC K D := by
  have c := excCB_ok h
  exact ⟨c.hg, c.hk, c.hs, c.hd⟩
/-- what the making of an error with an __init__ of one's own must know -/
def oexB (K : PySem.W.Frag) (C : Addr) : Bool := (match K.lookup C with
  | some ⟨.type "type", _, .cls cd, sl⟩ => (match cd.mro, sl.toList with
    | .ref C' :: bm, [_, _, _, _, some (.builtin n), _] => decide (C' = C) && (decide (n = "ValueError.__new__") && (!cd.hasDel && (cd.hasDict && PySem.HandSPX.refsVE bm)))
    | _, _ => false)
  | _ => false) && (He.eqO (PySem.W.findIn K (.ref C) "__setattr__") (some (some (.builtin "object.__setattr__"))) && (decide (PySem.W.subIn K (.ref C) (.type "BaseException") = some true) && (tyB K C && PySem.W.keepIn K (.ref C))))
theorem oexB_ok {K : PySem.W.Frag} {C : Addr} (h : oexB K C = true) : OexC K C := by
  unfold oexB at h
  simp only [Bool.and_eq_true] at h
  obtain ⟨h0, h1, h2, h3, h4⟩ := h
  refine ⟨?_, He.eqO_ok h1, of_decide_eq_true h2, of_decide_eq_true h3, h4⟩
  split at h0
  · next dd cd sl ho =>
    split at h0
    · next C' bm k0 k1 k2 k3 n k5 hm hs =>
      simp only [Bool.and_eq_true, decide_eq_true_eq, Bool.not_eq_true'] at h0
      obtain ⟨rfl, rfl, hdel, hdct, hr⟩ := h0
      obtain ⟨nm, bs, mro, ns, qn, hd, sn, sub, ab, col, del⟩ := cd
      dsimp only at hm hdel hdct
      subst hm hdel hdct
      have hsl : sl = #[k0, k1, k2, k3, some (.builtin "ValueError.__new__"), k5] := by
        rw [← Array.toArray_toList (xs := sl), hs]
      subst hsl
      exact ⟨nm, qn, ns, bs, bm, sn, sub, ab, col, dd, k0, k1, k2, k3, k5, ho, hr⟩
    · cases h0
  · cases h0
/-- .. its __init__ a def of one parameter, kept under its name -/
def iniB (K : PySem.W.Frag) (C : Addr) (f : Str) : Bool := oexB K C && (He.eqO (PySem.W.findIn K (.ref C) "__init__") (some (some (.ref (He.ma K C "__init__")))) && (decide (PySem.W.typeIn K (.ref (He.ma K C "__init__")) = some (.type "function")) && He.eqO (PySem.W.findIn K (.ref C) f) (some none)))
structure IniC (K : PySem.W.Frag) (C : Addr) (f : Str) : Prop where
  oex : OexC K C
  ini : PySem.W.findIn K (.ref C) "__init__" = some (some (.ref (He.ma K C "__init__")))
  fn : PySem.W.typeIn K (.ref (He.ma K C "__init__")) = some (.type "function")
  no : PySem.W.findIn K (.ref C) f = some none
theorem iniB_ok {K : PySem.W.Frag} {C : Addr} {f : Str} (h : iniB K C f = true) : IniC K C f := by
  unfold iniB at h
  simp only [Bool.and_eq_true, decide_eq_true_eq] at h
  exact ⟨oexB_ok h.1, He.eqO_ok h.2.1, h.2.2.1, He.eqO_ok h.2.2.2⟩
section
variable {X : Cx} {K : PySem.W.Frag} {k : Nat} {x f : Str} {e : Expr} {ta : TE} {p pos : Pos}
theorem pe_excG (hK : X.K = K) (h : (He.Fa.exc x).ok K = true) (gC : X.mg x = some (.ref (He.ga K x))) (hg : Gl X x) (he : PE X e ta) (hs : starEach [e] X.env = (false, eval e X.env) :: starEach [] X.env := by rfl) (hdb : (x == ("__debug__" : Str)) = false := by decide) :
    PE X (.Call (.Name x p) [e] [] pos) (tEx (tMk1 (He.ga K x) ta)) := by
  subst hK
  obtain ⟨h1, h2, h3, h4⟩ := He.exc_ok h
  exact pe_of_mk (SkE.pmk_own1 F.excBase_ValueError h1 gC h2 (raises_own h3 h4) hg he hs hdb)
theorem pe_oexG (hK : X.K = K) (c : IniC K (He.ga K x) f) (M : Mt X.prog X.w K X.mg X.base k (He.ga K x) "__init__" ["self", f] (iniSp K f)) (gC : X.mg x = some (.ref (He.ga K x))) (hr : Room (k + 1) X.A) (hg : Gl X x) (he : PE X e ta)
    (hs : starEach [e] X.env = (false, eval e X.env) :: starEach [] X.env := by rfl) (hdb : (x == ("__debug__" : Str)) = false := by decide) :
    PE X (.Call (.Name x p) [e] [] pos) (tEx (tMkO (He.ga K x) (iniSp K f) [] (tCons ta tNil))) := by
  subst hK
  obtain ⟨fd, F1, hb⟩ := M
  exact pe_of_mk (pmk_oex c.oex c.ini c.fn F1 hr hb .nil pass0 hg gC (pa_cons he pa_nil (hs := hs)) hdb hs (by rfl))
theorem pmk_oexK {C fI : Addr} {fd : FuncData} {ps ks : List Str} {sp : Sp} {kws : List Keyword} {tz : TA} (T : OexC X.K C) (iC : PySem.W.findIn X.K (.ref C) "__init__" = some (some (.ref fI))) (tI : PySem.W.typeIn X.K (.ref fI) = some (.type "function"))
    (G1 : FnOk X.prog X.w X.K X.mg X.base CX0 k fI fd ps sp) (hr : Room (k + 1) X.A) (kb : KBn X.K fd ps 1 ks (KG.of .app) (KG.of .app)) (hn : ps.length = ks.length + 1) (hg : Gl X x) (hm : X.mg x = some (.ref C)) (hkw : PK X kws tz)
    (hall : (backToKw pos (keywordEach kws X.env)).all (·.1.isSome) = true := by rfl) (hks : (backToKw pos (keywordEach kws X.env)).filterMap (·.1) = ks := by rfl) (hdb : (x == ("__debug__" : Str)) = false := by decide)
    (hpl : ((backTo pos (starEach [] X.env)).any (·.1) || (backToKw pos (keywordEach kws X.env)).any (·.1.isNone)) = false := by rfl) :
    PMk X (.Call (.Name x p) [] kws pos) (tMkO C sp [] tz) := by
  intro pins s σ H Q I hh
  obtain ⟨nm, qn, N, bs, bm, sn, sub, ab, col, dd, c0, c1, c2, c3, c5, look, hbm⟩ := T.cls
  refine wpAny_Call_Name_kw (ld_glob I hg hm ?_ hdb)
  refine PySem.W.callWith_KW0 (h₀ := X.base) I.ok.mod.kin T.kC hall ?_ hpl
  refine thn (hkw.run pos pins s σ H _ I hh) fun ws t1 ⟨zs, H1, I1, rz, hz, q1⟩ => ⟨I1.kIn, ?_⟩
  rw [hks]
  show wpAny _ _ (call (.ref C) [] (ks.zip ws)) _ _ _
  obtain ⟨hp, gs, dr, tk, ost⟩ := t1
  have big : hp.objs.size ≤ hp.objs.size + 1 := Nat.le_succ _
  have new1 : H1 (hp.objs.size + 1) = none := I1.hok.fresh big
  have want := q1 (hp.objs.size + 1) new1
  have stay : ∀ b o, hp.get? b = some o → ((hp.push (PySem.W.kdv_tup [])).push (PySem.HandSPX.excO C hp.objs.size)).get? b = some o := fun b o z => Heap.get?_push_of_some _ (Heap.get?_push_of_some _ z)
  have there : ((hp.push (PySem.W.kdv_tup [])).push (PySem.HandSPX.excO C hp.objs.size)).get? (hp.objs.size + 1) = some (PySem.HandSPX.excO C hp.objs.size) := by heap_get
  have I2 := I1.laid (t' := tk) (a := hp.objs.size + 1) (o := exo (hp.objs.size + 1) C none) (h' := (hp.push (PySem.W.kdv_tup [])).push (PySem.HandSPX.excO C hp.objs.size)) stay big (exo_ok there)
  rw [List.append_nil] at want
  have r2 : Vals (V.ref (hp.objs.size + 1) :: zs) (KG.of .app [Value.ref (hp.objs.size + 1)] ws) := .cons rfl rz
  have lenW : ws.length = ks.length := by
    have e1 := G1.len _ _ _ _ want
    rw [hn, List.length_cons] at e1
    have e2 := rz.length
    omega
  have bind := kb.to _ [Value.ref (hp.objs.size + 1)] ws I2.kIn rfl lenW
  refine wpAny_call (kwe_call F.excBase_ValueError (fun Y => PySem.HandSPX.refsVE_contains Y bm hbm) (I1.kIn _ _ look) (PySem.W.looks_findIn I1.kIn iC) (fun self => PySem.W.bind_fn I1.kIn self tI) (by show 0 ≤ sizeLine; decide)
    (codeAny_mono (G1.run _ X.stack _ _ ⟨[Value.ref (hp.objs.size + 1)], ks.zip ws⟩ (KG.of .app [Value.ref (hp.objs.size + 1)] ws) _ _ (fun _ _ _ => False) (hr.make C [] (ks.zip ws)) (I2.env0.make C [] (ks.zip ws)) bind r2 want) fun r t2 got => ?_))
  cases r with
  | error er => exact (show Passes CX0 X (fun _ _ _ => False) from pass0) pins σ _ _ er t2 I2 got
  | ok fl =>
    cases fl with
    | ret u =>
      obtain ⟨v, H2, os2, bare2, un2, hok2, rv, ev, d, fs, ea, ed, hd1, q2⟩ := got
      subst ev
      obtain ⟨h2, g2, d2, t2, os'⟩ := t2
      exact ⟨rv, mk_end (raises_own T.exC T.tyC) I1 big stay un2 hok2 os2 bare2 ea ed hd1 q2⟩
    | next => exact False.elim got
    | brk => exact False.elim got
    | cont => exact False.elim got
theorem pe_oexK (hK : X.K = K) (c : IniC K (He.ga K x) f) {n : Str} {apos : Pos} (M : ∃ fd, FnOk X.prog X.w K X.mg X.base CX0 k (He.ma K (He.ga K x) "__init__") fd ["self", f] (iniSp K f) ∧ KBn K fd ["self", f] 1 [f] (KG.of .app) (KG.of .app)) (gC : X.mg x = some (.ref (He.ga K x))) (hr : Room (k + 1) X.A) (hg : Gl X x)
    {kws : List Keyword} (hkw : PK X kws (tCons ta tNil)) (hall : (backToKw pos (keywordEach kws X.env)).all (·.1.isSome) = true := by rfl) (hks : (backToKw pos (keywordEach kws X.env)).filterMap (·.1) = [f] := by rfl) (hdb : (x == ("__debug__" : Str)) = false := by decide)
    (hpl : ((backTo pos (starEach [] X.env)).any (·.1) || (backToKw pos (keywordEach kws X.env)).any (·.1.isNone)) = false := by rfl) :
    PE X (.Call (.Name x p) [] kws pos) (tEx (tMkO (He.ga K x) (iniSp K f) [] (tCons ta tNil))) := by
  subst hK
  obtain ⟨fd, G1, kb⟩ := M
  exact pe_of_mk (pmk_oexK c.oex c.ini c.fn G1 hr kb rfl hg gC hkw hall hks hdb hpl)
end
end Lf
set_option Elab.async false
set_option linter.all false
set_option maxRecDepth 100000
set_option maxHeartbeats 4000000
/-! a text whose classes are errors -/
namespace Lf
open PySem PySem.Spec PyProof.Rows L2 RZ
/-- the root of the errors, those without an __init__ of their own, those with one and what it keeps -/
structure ErN where
  R : Str
  plain : List Str
  told : List (Str × Str)
def ErN.below (N : ErN) : List Str := N.plain ++ N.told.map Prod.fst
def ErN.all (N : ErN) : List Str := N.below ++ [N.R]
def erB (N : ErN) (K : PySem.W.Frag) : Bool :=
  (mroR K (He.ga K N.R) && N.below.all (fun x => mroB K (He.ga K N.R) (He.ga K x))) && (N.all.all (fun x => excCB K (He.ga K x) && tyB K (He.ga K x)) && (decide (N.all.map (He.ga K)).Nodup && N.told.all fun p => iniB K (He.ga K p.1) p.2))
structure ErK (N : ErN) (K : PySem.W.Frag) : Prop where
  exc : ∀ x ∈ N.all, ExcC K (He.ga K x)
  xf : ∀ x ∈ N.all, XfC K (He.ga K x)
  kit : ∀ (k j : Nat) (x y : Str), N.all[k]? = some x → N.below[j]? = some y → PySem.W.kitOne K (.ref (He.ga K x)) (.ref (He.ga K y)) = some (decide (k = j))
  kitR : ∀ x ∈ N.all, PySem.W.kitOne K (.ref (He.ga K x)) (.ref (He.ga K N.R)) = some true
  kitV : ∀ x ∈ N.all, PySem.W.kitOne K (.ref (He.ga K x)) (.type "ValueError") = some true
  ini : ∀ p ∈ N.told, IniC K (He.ga K p.1) p.2
theorem erB_ok {N : ErN} {K : PySem.W.Frag} (h : erB N K = true) : ErK N K := by
  unfold erB at h
  simp only [Bool.and_eq_true, decide_eq_true_eq] at h
  obtain ⟨⟨h1, h2⟩, h3, h4, h5⟩ := h
  rw [List.all_eq_true] at h2 h3 h5
  obtain ⟨cdR, eR, mR⟩ := mroR_ok h1
  have mem : ∀ x ∈ N.all, x ∈ N.below ∨ x = N.R := fun x hx => by
    unfold ErN.all at hx
    rcases List.mem_append.mp hx with q | q
    · exact .inl q
    · exact .inr (by simpa using q)
  have look : ∀ x ∈ N.all, ∃ cd l, PySem.W.clsIn K (He.ga K x) = some cd ∧ cd.mro = .ref (He.ga K x) :: l ∧ (l = veTl ∧ x = N.R ∨ l = .ref (He.ga K N.R) :: veTl ∧ x ∈ N.below) := fun x hx => by
    rcases mem x hx with q | rfl
    · obtain ⟨cd, e, m⟩ := mroB_ok (h2 x q)
      exact ⟨cd, _, e, m, .inr ⟨rfl, q⟩⟩
    · exact ⟨cdR, _, eR, mR, .inl ⟨rfl, rfl⟩⟩
  have ve : ∀ l : List Value, (l = veTl ∨ l = .ref (He.ga K N.R) :: veTl) → l.contains (.type "ValueError") = true := fun l hl => by
    rcases hl with rfl | rfl
    · decide +kernel
    · rw [List.contains_cons]
      have : veTl.contains (.type "ValueError") = true := by decide +kernel
      rw [this, Bool.or_true]
  have noref : ∀ C : Addr, veTl.contains (.ref C) = false := fun C => by
    apply Bool.eq_false_iff.mpr
    intro z
    have := List.contains_iff_mem.mp z
    unfold veTl at this
    simp at this
  refine ⟨fun x hx => excCB_ok (by have := h3 x hx; simp only [Bool.and_eq_true] at this; exact this.1), fun x hx => excCB_xf (by have := h3 x hx; simp only [Bool.and_eq_true] at this; exact this.1), fun k j x y hk hj => ?_, fun x hx => ?_, fun x hx => ?_, fun p hp => iniB_ok (h5 p hp)⟩
  · have mx : x ∈ N.all := List.mem_of_getElem? hk
    have my0 : y ∈ N.below := List.mem_of_getElem? hj
    have jl : j < N.below.length := (List.getElem?_eq_some_iff.mp hj).1
    have hj2 : N.all[j]? = some y := by
      unfold ErN.all
      rw [List.getElem?_append_left jl]; exact hj
    have my : y ∈ N.all := List.mem_of_getElem? hj2
    obtain ⟨cd, l, e, m, hl⟩ := look x mx
    obtain ⟨cd2, l2, e2, _, _⟩ := look y my
    have ty : tyB K (He.ga K y) = true := by have := h3 y my; simp only [Bool.and_eq_true] at this; exact this.2
    have inj : ∀ (a b : Nat) (u v : Str), N.all[a]? = some u → N.all[b]? = some v → He.ga K u = He.ga K v → a = b := fun a b u v ha hb hh => by
      have la : a < (N.all.map (He.ga K)).length := by rw [List.length_map]; exact (List.getElem?_eq_some_iff.mp ha).1
      exact (List.getElem?_inj la h4).mp (by rw [List.getElem?_map, List.getElem?_map, ha, hb]; simp [hh])
    have hR : N.all[N.below.length]? = some N.R := by
      unfold ErN.all
      rw [List.getElem?_append_right (Nat.le_refl _)]; simp
    have nR : He.ga K y ≠ He.ga K N.R := fun z => by
      have := inj j N.below.length y N.R hj2 hR z
      omega
    refine kit_of e m (by rw [e2]; rfl) ty ?_
    have h6 : l.contains (.ref (He.ga K y)) = false := by
      rcases hl with ⟨rfl, _⟩ | ⟨rfl, _⟩
      · exact noref _
      · rw [List.contains_cons, noref, Bool.or_false]
        apply Bool.eq_false_iff.mpr
        intro z
        exact nR (Value.ref.inj (beq_iff_eq.mp z))
    rw [h6, Bool.or_false]
    rw [decide_eq_decide]
    constructor
    · intro z; exact inj k j x y hk hj2 z.symm
    · intro z
      subst z
      rw [hk] at hj2
      cases hj2
      rfl
  · obtain ⟨cd, l, e, m, hl⟩ := look x hx
    have hRm : N.R ∈ N.all := by unfold ErN.all; simp
    have ty : tyB K (He.ga K N.R) = true := by have := h3 N.R hRm; simp only [Bool.and_eq_true] at this; exact this.2
    refine kit_of e m (by rw [eR]; rfl) ty ?_
    rcases hl with ⟨_, rfl⟩ | ⟨rfl, _⟩
    · simp
    · rw [List.contains_cons]; simp
  · obtain ⟨cd, l, e, m, hl⟩ := look x hx
    exact kit_ve e m (ve l (by rcases hl with ⟨q, _⟩ | ⟨q, _⟩; exact .inl q; exact .inr q))
structure Top0 (P : Program) (w : World) (fa : List He.Fa) (fn : List He.DefD) (N : ErN) (K : PySem.W.Frag) (mg : Str → Option Value) : Prop where
  says : He.SaysD fa fn K
  glo : ∀ x, He.Fa.glo x ∈ fa → mg x = some (.ref (He.ga K x))
  free : ∀ x, He.Fa.free x ∈ fa → mg x = none
  er : ErK N K
theorem Top0.of {P : Program} {w : World} {fa : List He.Fa} {fn : List He.DefD} {N : ErN} {h : Heap} {K : PySem.W.Frag} {mg : Str → Option Value} (X : K.In h) (G : h.Ns mainGlobals mg) (c : He.SaysX fa fn [] [] (erB N) w h K) : Top0 P w fa fn N K mg :=
  ⟨c.t.d, fun x hx => He.glo_ok X G (c.t.d.facts hx), fun x hx => He.free_ok X G (c.t.d.facts hx), erB_ok c.more⟩
theorem Top0.fn {P : Program} {w : World} {fa : List He.Fa} {fn : List He.DefD} {N : ErN} {K : PySem.W.Frag} {mg : Str → Option Value} (T : Top0 P w fa fn N K mg) (i : Nat) {x : Str} {st : Stmt} (h : fn[i]? = some (ddef x st)) : ∃ fd, FunD K x x (defArgs st) (defBody st) (defScope st) [] [] (He.ga K x) fd :=
  T.says.def_ i h
theorem Top0.exc {P : Program} {w : World} {fa : List He.Fa} {fn : List He.DefD} {N : ErN} {K : PySem.W.Frag} {mg : Str → Option Value} (T : Top0 P w fa fn N K mg) {x : Str} (h : He.Fa.exc x ∈ fa) : (He.Fa.exc x).ok K = true := T.says.facts h
end Lf
set_option Elab.async false
set_option linter.all false
set_option maxRecDepth 100000
set_option maxHeartbeats 4000000
set_option synthInstance.maxHeartbeats 4000000
set_option synthInstance.maxSize 100000
namespace K00
open PySem PySem.Spec PyProof.Rows L2 RZ Lf
def top (i : Nat) : Stmt := PySem.Challenge.pw_pacerose_k00_errors_of_all_parts.main.body.getD i (.Pass ⟨0, 0, 0, 0⟩)
def names : List Str := [("_law_begun" : Str), ("_law_blend" : Str), ("_law_take" : Str), ("_law_pick" : Str), ("_law_kinds" : Str), ("_law_plain_errors" : Str), ("_law_told_errors" : Str), ("_law_any" : Str), ("law" : Str), ("Asked" : Str), ("BadAt" : Str), ("BadAtlas" : Str), ("BadClaim" : Str), ("BadColumns" : Str), ("BadCosts" : Str), ("BadCount" : Str), ("BadCounts" : Str), ("BadDeed" : Str), ("BadDeeds" : Str), ("BadEnds" : Str), ("BadErrand" : Str), ("BadExtra" : Str), ("BadFact" : Str), ("BadFacts" : Str), ("BadFlow" : Str), ("BadGoal" : Str), ("BadHigh" : Str), ("BadIndex" : Str), ("BadIndexes" : Str), ("BadKind" : Str), ("BadLine" : Str), ("BadLog" : Str), ("BadLot" : Str), ("BadLow" : Str), ("BadMix" : Str), ("BadNet" : Str), ("BadPair" : Str), ("BadPairs" : Str), ("BadParty" : Str), ("BadPath" : Str), ("BadPlace" : Str), ("BadPlaces" : Str), ("BadRatio" : Str), ("BadRose" : Str), ("BadRoutes" : Str), ("BadRow" : Str), ("BadRows" : Str), ("BadScale" : Str), ("BadSize" : Str), ("BadSpot" : Str), ("BadStep" : Str), ("BadSteps" : Str), ("BadTable" : Str), ("BadTables" : Str), ("BadTie" : Str), ("BadTies" : Str), ("BadTime" : Str), ("BadTimes" : Str), ("BadTrip" : Str), ("BadTrips" : Str), ("BadWalk" : Str), ("BadWay" : Str), ("BadWeights" : Str), ("BadWind" : Str), ("BadWord" : Str), ("Endless" : Str), ("Named" : Str), ("NoName" : Str), ("NoPath" : Str), ("NoQuestion" : Str), ("NotFlat" : Str), ("NotMirrored" : Str), ("NothingDone" : Str), ("NothingUndone" : Str), ("OtherPlaces" : Str), ("OtherSize" : Str), ("Quarrel" : Str), ("Unkept" : Str), ("Used" : Str), ("Windless" : Str), ("RoseError" : Str), ("BadDrift" : Str), ("BadNumber" : Str), ("BadText" : Str), ("Failed" : Str), ("NotClosed" : Str), ("Quarrels" : Str), ("TooMany" : Str)]
def frees : List Str := [("ValueError" : Str), ("abs" : Str), ("enumerate" : Str), ("int" : Str), ("isinstance" : Str), ("len" : Str), ("range" : Str), ("repr" : Str)]
def meth (i j : Nat) : Stmt := (C8.clsBody (top i)).getD j (.Pass ⟨0, 0, 0, 0⟩)
def mdef (c m q : Str) (st : Stmt) : He.DefD := ⟨(c, some m), m, q, defArgs st, defBody st, defScope st, [], []⟩
def methods : List He.DefD := [mdef "BadDrift" "__init__" "BadDrift.__init__" (meth 12 0), mdef "BadNumber" "__init__" "BadNumber.__init__" (meth 30 0), mdef "BadText" "__init__" "BadText.__init__" (meth 49 0), mdef "Failed" "__init__" "Failed.__init__" (meth 62 0), mdef "NotClosed" "__init__" "NotClosed.__init__" (meth 67 0), mdef "Quarrels" "__init__" "Quarrels.__init__" (meth 75 0), mdef "TooMany" "__init__" "TooMany.__init__" (meth 76 0)]
def fns : List He.DefD := [ddef "_law_begun" (top 81), ddef "_law_blend" (top 82), ddef "_law_take" (top 83), ddef "_law_pick" (top 84), ddef "_law_kinds" (top 85), ddef "_law_plain_errors" (top 86), ddef "_law_told_errors" (top 87), ddef "_law_any" (top 88), ddef "law" (top 89)] ++ methods
def exN : List Str := [("Asked" : Str), ("BadAt" : Str), ("BadAtlas" : Str), ("BadClaim" : Str), ("BadColumns" : Str), ("BadCosts" : Str), ("BadCount" : Str), ("BadCounts" : Str), ("BadDeed" : Str), ("BadDeeds" : Str), ("BadEnds" : Str), ("BadErrand" : Str), ("BadExtra" : Str), ("BadFact" : Str), ("BadFacts" : Str), ("BadFlow" : Str), ("BadGoal" : Str), ("BadHigh" : Str), ("BadIndex" : Str), ("BadIndexes" : Str), ("BadKind" : Str), ("BadLine" : Str), ("BadLog" : Str), ("BadLot" : Str), ("BadLow" : Str), ("BadMix" : Str), ("BadNet" : Str), ("BadPair" : Str), ("BadPairs" : Str), ("BadParty" : Str), ("BadPath" : Str), ("BadPlace" : Str), ("BadPlaces" : Str), ("BadRatio" : Str), ("BadRose" : Str), ("BadRoutes" : Str), ("BadRow" : Str), ("BadRows" : Str), ("BadScale" : Str), ("BadSize" : Str), ("BadSpot" : Str), ("BadStep" : Str), ("BadSteps" : Str), ("BadTable" : Str), ("BadTables" : Str), ("BadTie" : Str), ("BadTies" : Str), ("BadTime" : Str), ("BadTimes" : Str), ("BadTrip" : Str), ("BadTrips" : Str), ("BadWalk" : Str), ("BadWay" : Str), ("BadWeights" : Str), ("BadWind" : Str), ("BadWord" : Str), ("Endless" : Str), ("Named" : Str), ("NoName" : Str), ("NoPath" : Str), ("NoQuestion" : Str), ("NotFlat" : Str), ("NotMirrored" : Str), ("NothingDone" : Str), ("NothingUndone" : Str), ("OtherPlaces" : Str), ("OtherSize" : Str), ("Quarrel" : Str), ("Unkept" : Str), ("Used" : Str), ("Windless" : Str), ("RoseError" : Str)]
def ern : ErN := ⟨"RoseError", [("Asked" : Str), ("BadAt" : Str), ("BadAtlas" : Str), ("BadClaim" : Str), ("BadColumns" : Str), ("BadCosts" : Str), ("BadCount" : Str), ("BadCounts" : Str), ("BadDeed" : Str), ("BadDeeds" : Str), ("BadEnds" : Str), ("BadErrand" : Str), ("BadExtra" : Str), ("BadFact" : Str), ("BadFacts" : Str), ("BadFlow" : Str), ("BadGoal" : Str), ("BadHigh" : Str), ("BadIndex" : Str), ("BadIndexes" : Str), ("BadKind" : Str), ("BadLine" : Str), ("BadLog" : Str), ("BadLot" : Str), ("BadLow" : Str), ("BadMix" : Str), ("BadNet" : Str), ("BadPair" : Str), ("BadPairs" : Str), ("BadParty" : Str), ("BadPath" : Str), ("BadPlace" : Str), ("BadPlaces" : Str), ("BadRatio" : Str), ("BadRose" : Str), ("BadRoutes" : Str), ("BadRow" : Str), ("BadRows" : Str), ("BadScale" : Str), ("BadSize" : Str), ("BadSpot" : Str), ("BadStep" : Str), ("BadSteps" : Str), ("BadTable" : Str), ("BadTables" : Str), ("BadTie" : Str), ("BadTies" : Str), ("BadTime" : Str), ("BadTimes" : Str), ("BadTrip" : Str), ("BadTrips" : Str), ("BadWalk" : Str), ("BadWay" : Str), ("BadWeights" : Str), ("BadWind" : Str), ("BadWord" : Str), ("Endless" : Str), ("Named" : Str), ("NoName" : Str), ("NoPath" : Str), ("NoQuestion" : Str), ("NotFlat" : Str), ("NotMirrored" : Str), ("NothingDone" : Str), ("NothingUndone" : Str), ("OtherPlaces" : Str), ("OtherSize" : Str), ("Quarrel" : Str), ("Unkept" : Str), ("Used" : Str), ("Windless" : Str)], [(("BadDrift" : Str), ("step" : Str)), (("BadNumber" : Str), ("part" : Str)), (("BadText" : Str), ("line" : Str)), (("Failed" : Str), ("at" : Str)), (("NotClosed" : Str), ("end" : Str)), (("Quarrels" : Str), ("lot" : Str)), (("TooMany" : Str), ("most" : Str))]⟩
def facts : List He.Fa := namesOf names frees (exN.map He.Fa.exc)
theorem mem_exc {x : Str} (h : x ∈ exN) : He.Fa.exc x ∈ facts := List.mem_append_right _ (List.mem_append_right _ (List.mem_map_of_mem h))
abbrev Top (P : Program) (w : World) (K : PySem.W.Frag) (mg : Str → Option Value) : Prop := Top0 P w facts fns ern K mg
section
variable {P : Program} {w : World} {K : PySem.W.Frag} {mg : Str → Option Value} {base : Heap}

end
end K00
set_option Elab.async false
set_option linter.all false
set_option maxRecDepth 100000
set_option maxHeartbeats 0
namespace Hs
open PySem PySem.W PySem.Calls PyProof.Rows HandSHeadRun
/-! the head of a law of many classes: the top is run in a few stretches, each from a state that is written out to the next -/
/-- a heap's tree -/
def mkT : List Obj → BT → Nat → BT
  | [], x, _ => x
  | o :: r, x, n => mkT r (x.ins n o) (n + 1)
theorem putAll_mkT : ∀ (l : List Obj) (x x' : BT) (n n' : Nat), putAll l x n = some (x', n') → x' = mkT l x n ∧ n' = n + l.length
  | [], x, x', n, n', e => by
    have e' : some (x, n) = some (x', n') := e
    cases e'
    exact ⟨rfl, rfl⟩
  | o :: r, x, x', n, n', e => by
    have e' : (match ((x.ins n o).get n).isSome with | true => putAll r (x.ins n o) (n + 1) | false => none) = some (x', n') := e
    cases q : ((x.ins n o).get n).isSome with
    | false => rw [q] at e'; cases e'
    | true =>
      rw [q] at e'
      obtain ⟨a, b⟩ := putAll_mkT r _ _ _ _ e'
      exact ⟨a, by rw [b, List.length_cons]; omega⟩
section
variable (st : SharedT → Thread → Option (SharedT × Thread)) (n0 : Nat) (an : Option Value)
/-- a stretch of the top, to its end -/
def seF : Nat → SharedT → Thread → Option (Flow × SharedT × Code × Pos)
  | 0, _, _ => none
  | m + 1, s, t => match endAt 1 t with
    | some f => some (f, s, t.code, t.pos)
    | none => match stepOk n0 an t with
      | false => none
      | true => match st s t with
        | some r => frS r.1 fun s' => seF m s' r.2
        | none => none
/-- so many steps of the top -/
def toF : Nat → SharedT → Thread → Option (SharedT × Thread)
  | 0, s, t => some (s, t)
  | m + 1, s, t => match through t with
    | true => none
    | false => match stepOk n0 an t with
      | false => none
      | true => match st s t with
        | some r => frS r.1 fun s' => toF m s' r.2
        | none => none
end
section
variable {tb : String → Option Builtin} {p : Program} {w : World} {n0 : Nat} {an : Option Value}
theorem seF_ok : ∀ {m : Nat} {s s' : SharedT} {t : Thread} {f : Flow} {c : Code} {q : Pos}, seF (stepT (denote tb) p w) n0 an m s t = some (f, s', c, q) → segRun tb p w n0 an 1 m s.abs t = some (f, s'.abs, c, q)
  | 0, _, _, _, _, _, _, h => by cases h
  | m + 1, s, s', t, f, c, q, h => by
    unfold seF at h
    unfold segRun
    cases he : endAt 1 t with
    | some y => rw [he] at h; cases h; rfl
    | none =>
      rw [he] at h
      cases hk : stepOk n0 an t with
      | false => rw [hk] at h; cases h
      | true =>
        rw [hk] at h
        cases hs : stepT (denote tb) p w s t with
        | none => rw [hs] at h; cases h
        | some r =>
          obtain ⟨s2, t2⟩ := r
          rw [hs] at h
          dsimp only at h
          rw [frS_eq] at h
          rw [stepT_spec hs]
          exact seF_ok h
theorem toF_ok : ∀ {m : Nat} {s s' : SharedT} {t t' : Thread}, toF (stepT (denote tb) p w) n0 an m s t = some (s', t') → topGo tb p w n0 an m s.abs t = some (s'.abs, t')
  | 0, _, _, _, _, h => by cases h; rfl
  | m + 1, s, s', t, t', h => by
    unfold toF at h
    unfold topGo
    cases he : through t with
    | true => rw [he] at h; cases h
    | false =>
      rw [he] at h
      cases hk : stepOk n0 an t with
      | false => rw [hk] at h; cases h
      | true =>
        rw [hk] at h
        cases hs : stepT (denote tb) p w s t with
        | none => rw [hs] at h; cases h
        | some r =>
          obtain ⟨s2, t2⟩ := r
          rw [hs] at h
          dsimp only at h
          rw [frS_eq] at h
          rw [stepT_spec hs]
          exact toF_ok h
end
/-- the step by the library's twins -/
theorem st_eq (p : Program) (w : World) : stepQ (denQ tabQ) p w = stepT (denote treeTable) p w := by rw [stepQ_eq, denQ_eq, tabQ_eq]
/-- a row from what its top leaves -/
theorem row_left {r : OpenRow} {q : Program} {H : Hook} {N : Nat} {loose : List PySem.Str} {d : DefRec} {kwd : List (PySem.Str × PySem.Expr)}
    (left : LeftO r.prog q loose (fun u => xlAt q [] u && recOk r.toRowW.records u) H.obs H.val N)
    (h1 : defOf q r.name = some (d, kwd)) (h2 : r.prog.theDef r.name = some (d.params, d.body, d.scope)) (h3 : kwWritten? d.params.kwonlyargs d.params.kw_defaults = some kwd) (h4 : (!r.writes || r.records.isEmpty) = true)
    (h5 : r.wellSaid = true) (h6 : (chainsOk q && opensWell r.prog && (frees r.toRowW && r.within.isEmpty)) = true) (h7 : r.prog.bare) (h8 : r.toRowW.promised)
    (call : WalkO q loose (XL q []) H.says r.toRowW d kwd fun f vs => PySem.call f vs) : r.Holds :=
  holds_open (XP := XL q []) (YP := H.says) left H.of H.keeps (fun u z => xl_of u (Bool.and_eq_true_iff.mp z).1) XL.keeps h1 h2 h3 (fun u z => recFacts_of (Bool.and_eq_true_iff.mp z).2) h4 h5 h6 h7 h8 call
end Hs
namespace K00
open PySem PySem.Spec PyProof.Rows L2 RZ Lf
abbrev hk : PySem.W.Hook := He.hookX 4 facts fns [] [] (erB ern)
abbrev R : PySem.W.OpenRow := PySem.W.OpenLaw.row PySem.Challenge.rw_pacerose_k00_errors_of_all_parts
def ob (s : PySem.W.SharedT) : He.AlX := He.obsX 4 facts fns [] [] (erB ern) (HandSHeadRun.getT s)
theorem ob_eq (s : PySem.W.SharedT) : ob s = hk.obs s.abs := He.obsX_eq (HandSHeadRun.getT_eq s)
def loose0 : List Str := [("__name__" : Str), ("RoseError" : Str), ("Asked" : Str), ("BadAt" : Str), ("BadAtlas" : Str), ("BadClaim" : Str), ("BadColumns" : Str), ("BadCosts" : Str), ("BadCount" : Str), ("BadCounts" : Str), ("BadDeed" : Str), ("BadDeeds" : Str), ("BadDrift" : Str), ("BadEnds" : Str), ("BadErrand" : Str), ("BadExtra" : Str), ("BadFact" : Str), ("BadFacts" : Str), ("BadFlow" : Str), ("BadGoal" : Str), ("BadHigh" : Str), ("BadIndex" : Str), ("BadIndexes" : Str), ("BadKind" : Str), ("BadLine" : Str), ("BadLog" : Str), ("BadLot" : Str), ("BadLow" : Str), ("BadMix" : Str), ("BadNet" : Str)]
def loose1 : List Str := [("BadNumber" : Str), ("BadPair" : Str), ("BadPairs" : Str), ("BadParty" : Str), ("BadPath" : Str), ("BadPlace" : Str), ("BadPlaces" : Str), ("BadRatio" : Str), ("BadRose" : Str), ("BadRoutes" : Str), ("BadRow" : Str), ("BadRows" : Str), ("BadScale" : Str), ("BadSize" : Str), ("BadSpot" : Str), ("BadStep" : Str), ("BadSteps" : Str), ("BadTable" : Str), ("BadTables" : Str), ("BadText" : Str), ("BadTie" : Str), ("BadTies" : Str), ("BadTime" : Str), ("BadTimes" : Str), ("BadTrip" : Str), ("BadTrips" : Str), ("BadWalk" : Str), ("BadWay" : Str), ("BadWeights" : Str), ("BadWind" : Str)]
def loose2 : List Str := [("BadWord" : Str), ("Endless" : Str), ("Failed" : Str), ("Named" : Str), ("NoName" : Str), ("NoPath" : Str), ("NoQuestion" : Str), ("NotClosed" : Str), ("NotFlat" : Str), ("NotMirrored" : Str), ("NothingDone" : Str), ("NothingUndone" : Str), ("OtherPlaces" : Str), ("OtherSize" : Str), ("Quarrel" : Str), ("Quarrels" : Str), ("TooMany" : Str), ("Unkept" : Str), ("Used" : Str), ("Windless" : Str), ("_law_begun" : Str), ("_law_blend" : Str), ("_law_take" : Str), ("_law_pick" : Str), ("_law_kinds" : Str), ("_law_plain_errors" : Str), ("_law_told_errors" : Str), ("_law_any" : Str)]
def loose : List Str := loose0 ++ loose1 ++ loose2
noncomputable section
open PySem.W PySem.Calls HandSHeadRun
def cls (PP : Params) (n : Str) (a t : Nat) (l : Int) : List Obj := [
  { cls := Value.type "tuple", data := Data.seq #[Value.ref 24] },
  { cls := Value.type "builtin_function_or_method", data := Data.fields #[Value.builtin "type.__prepare__", Value.type "type"] },
  { cls := Value.type "dict", data := Data.dict #[{ hash := PyData.keyHash PP (Str.ofString "__module__"), key := Value.str (Str.ofString "__module__") (t + 7), val := Value.str (Str.ofString "pacerose.errors") 187 }, { hash := PyData.keyHash PP (Str.ofString "__qualname__"), key := Value.str (Str.ofString "__qualname__") (t + 9), val := Value.str (n) (t + 8) }, { hash := PyData.keyHash PP (Str.ofString "__firstlineno__"), key := Value.str (Str.ofString "__firstlineno__") (t + 11), val := Value.int l (t + 10) }, { hash := PyData.keyHash PP (Str.ofString "__static_attributes__"), key := Value.str (Str.ofString "__static_attributes__") (t + 12), val := Value.ref (a + 7) }] 4 },
  { cls := Value.type "tuple", data := Data.seq #[] },
  { cls := Value.none, data := Data.fields #[] },
  { cls := Value.type "code", data := Data.fields #[Value.str (n) (t + 2), Value.str (n) (t + 3), Value.str (Str.ofString "/claim/cut.py") (t + 4), Value.int l 0, Value.int 0 0, Value.int 0 0, Value.int 0 0, Value.int 0 0, Value.ref (a + 3), Value.bool false, Value.int 181 0, Value.ref (a + 4), Value.none, Value.none, Value.none, Value.none, Value.int ((t + 5 : Nat) : Int) 0, Value.int l 0, Value.str (Str.ofString "/claim/cut.py") (t + 6)] },
  { cls := Value.type "frame", slots := #[some (Value.ref (a + 5)), some (Value.ref 3), some (Value.ref (a + 2)), none, some (Value.str (Str.ofString "pacerose.errors") 187), none, some (Value.ref 0)] },
  { cls := Value.type "tuple", data := Data.seq #[] },
  { cls := Value.type "dict", data := Data.dict #[{ hash := PyData.keyHash PP (Str.ofString "__module__"), key := Value.str (Str.ofString "__module__") (t + 7), val := Value.str (Str.ofString "pacerose.errors") 187 }, { hash := PyData.keyHash PP (Str.ofString "__firstlineno__"), key := Value.str (Str.ofString "__firstlineno__") (t + 11), val := Value.int l (t + 10) }, { hash := PyData.keyHash PP (Str.ofString "__static_attributes__"), key := Value.str (Str.ofString "__static_attributes__") (t + 12), val := Value.ref (a + 7) }, { hash := PyData.keyHash PP (Str.ofString "__doc__"), key := Value.str (Str.ofString "__doc__") (t + 13), val := Value.none }] 2 },
  { cls := Value.type "type", data := Data.cls { name := n, bases := [Value.ref 24], mro := [Value.ref (a + 9), Value.ref 24, Value.type "ValueError", Value.type "Exception", Value.type "BaseException", Value.type "object"], ns := (a + 8), qualname := n }, slots := #[some (Value.ref (a + 0)), none, some (Value.str (n) (t + 0)), some (Value.str (n) (t + 8)), some (Value.builtin "ValueError.__new__"), some (Value.bool true)] },
  { cls := Value.type "super", data := Data.fields #[Value.ref (a + 9), Value.ref (a + 9), Value.ref (a + 9)] },
  { cls := Value.type "builtin_function_or_method", data := Data.fields #[Value.builtin "object.__init_subclass__", Value.ref (a + 9)] }]
def lit0 (PP : Params) (subs : List Value) : List Obj := [{ cls := Value.type "tuple", data := Data.seq #[Value.type "ValueError"] },
  { cls := Value.type "builtin_function_or_method", data := Data.fields #[Value.builtin "type.__prepare__", Value.type "type"] },
  { cls := Value.type "dict", data := Data.dict #[{ hash := PyData.keyHash PP (Str.ofString "__module__"), key := Value.str (Str.ofString "__module__") 196, val := Value.str (Str.ofString "pacerose.errors") 187 }, { hash := PyData.keyHash PP (Str.ofString "__qualname__"), key := Value.str (Str.ofString "__qualname__") 198, val := Value.str (Str.ofString "RoseError") 197 }, { hash := PyData.keyHash PP (Str.ofString "__firstlineno__"), key := Value.str (Str.ofString "__firstlineno__") 200, val := Value.int 2 199 }, { hash := PyData.keyHash PP (Str.ofString "__static_attributes__"), key := Value.str (Str.ofString "__static_attributes__") 201, val := Value.ref 22 }] 4 },
  { cls := Value.type "tuple", data := Data.seq #[] },
  { cls := Value.none, data := Data.fields #[] },
  { cls := Value.type "code", data := Data.fields #[Value.str (Str.ofString "RoseError") 191, Value.str (Str.ofString "RoseError") 192, Value.str (Str.ofString "/claim/cut.py") 193, Value.int 2 0, Value.int 0 0, Value.int 0 0, Value.int 0 0, Value.int 0 0, Value.ref 18, Value.bool false, Value.int 181 0, Value.ref 19, Value.none, Value.none, Value.none, Value.none, Value.int 194 0, Value.int 2 0, Value.str (Str.ofString "/claim/cut.py") 195] },
  { cls := Value.type "frame", slots := #[some (Value.ref 20), some (Value.ref 3), some (Value.ref 17), none, some (Value.str (Str.ofString "pacerose.errors") 187), none, some (Value.ref 0)] },
  { cls := Value.type "tuple", data := Data.seq #[] },
  { cls := Value.type "dict", data := Data.dict #[{ hash := PyData.keyHash PP (Str.ofString "__module__"), key := Value.str (Str.ofString "__module__") 196, val := Value.str (Str.ofString "pacerose.errors") 187 }, { hash := PyData.keyHash PP (Str.ofString "__firstlineno__"), key := Value.str (Str.ofString "__firstlineno__") 200, val := Value.int 2 199 }, { hash := PyData.keyHash PP (Str.ofString "__static_attributes__"), key := Value.str (Str.ofString "__static_attributes__") 201, val := Value.ref 22 }, { hash := PyData.keyHash PP (Str.ofString "__weakref__"), key := Value.str (Str.ofString "__weakref__") 203, val := Value.ref 25 }, { hash := PyData.keyHash PP (Str.ofString "__doc__"), key := Value.str (Str.ofString "__doc__") 204, val := Value.none }] 3 },
  { cls := Value.type "type", data := Data.cls { name := Str.ofString "RoseError", bases := [Value.type "ValueError"], mro := [Value.ref 24, Value.type "ValueError", Value.type "Exception", Value.type "BaseException", Value.type "object"], ns := 23, qualname := Str.ofString "RoseError", subclasses := subs }, slots := #[some (Value.ref 15), none, some (Value.str (Str.ofString "RoseError") 189), some (Value.str (Str.ofString "RoseError") 197), some (Value.builtin "ValueError.__new__"), some (Value.bool true)] },
  { cls := Value.type "getset_descriptor", data := Data.fields #[Value.str (Str.ofString "__weakref__") 202, Value.ref 24, Value.builtin "ExceptionGroup.__weakref__", Value.none] },
  { cls := Value.type "super", data := Data.fields #[Value.ref 24, Value.ref 24, Value.ref 24] },
  { cls := Value.type "builtin_function_or_method", data := Data.fields #[Value.builtin "object.__init_subclass__", Value.ref 24] }]
def lit1 (PP : Params) : List Obj := [{ cls := Value.type "tuple", data := Data.seq #[Value.ref 24] },
  { cls := Value.type "builtin_function_or_method", data := Data.fields #[Value.builtin "type.__prepare__", Value.type "type"] },
  { cls := Value.type "dict", data := Data.dict #[{ hash := PyData.keyHash PP (Str.ofString "__module__"), key := Value.str (Str.ofString "__module__") 374, val := Value.str (Str.ofString "pacerose.errors") 187 }, { hash := PyData.keyHash PP (Str.ofString "__qualname__"), key := Value.str (Str.ofString "__qualname__") 376, val := Value.str (Str.ofString "BadDrift") 375 }, { hash := PyData.keyHash PP (Str.ofString "__firstlineno__"), key := Value.str (Str.ofString "__firstlineno__") 378, val := Value.int 24 377 }, { hash := PyData.keyHash PP (Str.ofString "__init__"), key := Value.str (Str.ofString "__init__") 386, val := Value.ref 161 }, { hash := PyData.keyHash PP (Str.ofString "__static_attributes__"), key := Value.str (Str.ofString "__static_attributes__") 388, val := Value.ref 162 }] 5 },
  { cls := Value.type "tuple", data := Data.seq #[] },
  { cls := Value.none, data := Data.fields #[Value.int 26 0, Value.int 4 0, Value.ref 160] },
  { cls := Value.type "code", data := Data.fields #[Value.str (Str.ofString "BadDrift") 369, Value.str (Str.ofString "BadDrift") 370, Value.str (Str.ofString "/claim/cut.py") 371, Value.int 24 0, Value.int 0 0, Value.int 0 0, Value.int 0 0, Value.int 0 0, Value.ref 151, Value.bool false, Value.int 181 0, Value.ref 152, Value.none, Value.none, Value.none, Value.none, Value.int 372 0, Value.int 24 0, Value.str (Str.ofString "/claim/cut.py") 373] },
  { cls := Value.type "frame", slots := #[some (Value.ref 153), some (Value.ref 3), some (Value.ref 150), none, some (Value.str (Str.ofString "pacerose.errors") 187), none, some (Value.ref 0)] },
  { cls := Value.type "tuple", data := Data.seq #[] },
  { cls := Value.none, data := Data.fields #[] },
  { cls := Value.type "tuple", data := Data.seq #[Value.str (Str.ofString "self") 382, Value.str (Str.ofString "step") 383] },
  { cls := Value.type "tuple", data := Data.seq #[] },
  { cls := Value.none, data := Data.func { name := Str.ofString "__init__", qualname := Str.ofString "BadDrift.__init__", params := defArgs (meth 12 0), body := FuncBody.stmts (defBody (meth 12 0)), scope := defScope (meth 12 0), globals := 0, closure := [], defaults := Value.none, kwdefaults := Value.none } },
  { cls := Value.type "code", data := Data.fields #[Value.str (Str.ofString "__init__") 379, Value.str (Str.ofString "BadDrift.__init__") 380, Value.str (Str.ofString "/claim/cut.py") 381, Value.int 26 0, Value.int 2 0, Value.int 0 0, Value.int 0 0, Value.int 3 0, Value.ref 155, Value.bool true, Value.int 181 0, Value.ref 156, Value.none, Value.ref 157, Value.ref 158, Value.ref 159, Value.int 384 0, Value.int 26 0, Value.str (Str.ofString "/claim/cut.py") 385] },
  { cls := Value.type "function", data := Data.func { name := Str.ofString "__init__", qualname := Str.ofString "BadDrift.__init__", params := defArgs (meth 12 0), body := FuncBody.stmts (defBody (meth 12 0)), scope := defScope (meth 12 0), globals := 3, closure := [], defaults := Value.none, kwdefaults := Value.none, pyModule := Value.str (Str.ofString "pacerose.errors") 187, code := Value.ref 160 } },
  { cls := Value.type "tuple", data := Data.seq #[Value.str (Str.ofString "step") 387] },
  { cls := Value.type "dict", data := Data.dict #[{ hash := PyData.keyHash PP (Str.ofString "__module__"), key := Value.str (Str.ofString "__module__") 374, val := Value.str (Str.ofString "pacerose.errors") 187 }, { hash := PyData.keyHash PP (Str.ofString "__firstlineno__"), key := Value.str (Str.ofString "__firstlineno__") 378, val := Value.int 24 377 }, { hash := PyData.keyHash PP (Str.ofString "__init__"), key := Value.str (Str.ofString "__init__") 386, val := Value.ref 161 }, { hash := PyData.keyHash PP (Str.ofString "__static_attributes__"), key := Value.str (Str.ofString "__static_attributes__") 388, val := Value.ref 162 }, { hash := PyData.keyHash PP (Str.ofString "__doc__"), key := Value.str (Str.ofString "__doc__") 389, val := Value.none }] 2 },
  { cls := Value.type "type", data := Data.cls { name := Str.ofString "BadDrift", bases := [Value.ref 24], mro := [Value.ref 164, Value.ref 24, Value.type "ValueError", Value.type "Exception", Value.type "BaseException", Value.type "object"], ns := 163, qualname := Str.ofString "BadDrift" }, slots := #[some (Value.ref 148), none, some (Value.str (Str.ofString "BadDrift") 367), some (Value.str (Str.ofString "BadDrift") 375), some (Value.builtin "ValueError.__new__"), some (Value.bool true)] },
  { cls := Value.type "super", data := Data.fields #[Value.ref 164, Value.ref 164, Value.ref 164] },
  { cls := Value.type "builtin_function_or_method", data := Data.fields #[Value.builtin "object.__init_subclass__", Value.ref 164] }]
def lit2 (PP : Params) : List Obj := [{ cls := Value.type "tuple", data := Data.seq #[Value.ref 24] },
  { cls := Value.type "builtin_function_or_method", data := Data.fields #[Value.builtin "type.__prepare__", Value.type "type"] },
  { cls := Value.type "dict", data := Data.dict #[{ hash := PyData.keyHash PP (Str.ofString "__module__"), key := Value.str (Str.ofString "__module__") 671, val := Value.str (Str.ofString "pacerose.errors") 187 }, { hash := PyData.keyHash PP (Str.ofString "__qualname__"), key := Value.str (Str.ofString "__qualname__") 673, val := Value.str (Str.ofString "BadNumber") 672 }, { hash := PyData.keyHash PP (Str.ofString "__firstlineno__"), key := Value.str (Str.ofString "__firstlineno__") 675, val := Value.int 62 674 }, { hash := PyData.keyHash PP (Str.ofString "__init__"), key := Value.str (Str.ofString "__init__") 683, val := Value.ref 384 }, { hash := PyData.keyHash PP (Str.ofString "__static_attributes__"), key := Value.str (Str.ofString "__static_attributes__") 685, val := Value.ref 385 }] 5 },
  { cls := Value.type "tuple", data := Data.seq #[] },
  { cls := Value.none, data := Data.fields #[Value.int 64 0, Value.int 4 0, Value.ref 383] },
  { cls := Value.type "code", data := Data.fields #[Value.str (Str.ofString "BadNumber") 666, Value.str (Str.ofString "BadNumber") 667, Value.str (Str.ofString "/claim/cut.py") 668, Value.int 62 0, Value.int 0 0, Value.int 0 0, Value.int 0 0, Value.int 0 0, Value.ref 374, Value.bool false, Value.int 181 0, Value.ref 375, Value.none, Value.none, Value.none, Value.none, Value.int 669 0, Value.int 62 0, Value.str (Str.ofString "/claim/cut.py") 670] },
  { cls := Value.type "frame", slots := #[some (Value.ref 376), some (Value.ref 3), some (Value.ref 373), none, some (Value.str (Str.ofString "pacerose.errors") 187), none, some (Value.ref 0)] },
  { cls := Value.type "tuple", data := Data.seq #[] },
  { cls := Value.none, data := Data.fields #[] },
  { cls := Value.type "tuple", data := Data.seq #[Value.str (Str.ofString "self") 679, Value.str (Str.ofString "part") 680] },
  { cls := Value.type "tuple", data := Data.seq #[] },
  { cls := Value.none, data := Data.func { name := Str.ofString "__init__", qualname := Str.ofString "BadNumber.__init__", params := defArgs (meth 30 0), body := FuncBody.stmts (defBody (meth 30 0)), scope := defScope (meth 30 0), globals := 0, closure := [], defaults := Value.none, kwdefaults := Value.none } },
  { cls := Value.type "code", data := Data.fields #[Value.str (Str.ofString "__init__") 676, Value.str (Str.ofString "BadNumber.__init__") 677, Value.str (Str.ofString "/claim/cut.py") 678, Value.int 64 0, Value.int 2 0, Value.int 0 0, Value.int 0 0, Value.int 3 0, Value.ref 378, Value.bool true, Value.int 181 0, Value.ref 379, Value.none, Value.ref 380, Value.ref 381, Value.ref 382, Value.int 681 0, Value.int 64 0, Value.str (Str.ofString "/claim/cut.py") 682] },
  { cls := Value.type "function", data := Data.func { name := Str.ofString "__init__", qualname := Str.ofString "BadNumber.__init__", params := defArgs (meth 30 0), body := FuncBody.stmts (defBody (meth 30 0)), scope := defScope (meth 30 0), globals := 3, closure := [], defaults := Value.none, kwdefaults := Value.none, pyModule := Value.str (Str.ofString "pacerose.errors") 187, code := Value.ref 383 } },
  { cls := Value.type "tuple", data := Data.seq #[Value.str (Str.ofString "part") 684] },
  { cls := Value.type "dict", data := Data.dict #[{ hash := PyData.keyHash PP (Str.ofString "__module__"), key := Value.str (Str.ofString "__module__") 671, val := Value.str (Str.ofString "pacerose.errors") 187 }, { hash := PyData.keyHash PP (Str.ofString "__firstlineno__"), key := Value.str (Str.ofString "__firstlineno__") 675, val := Value.int 62 674 }, { hash := PyData.keyHash PP (Str.ofString "__init__"), key := Value.str (Str.ofString "__init__") 683, val := Value.ref 384 }, { hash := PyData.keyHash PP (Str.ofString "__static_attributes__"), key := Value.str (Str.ofString "__static_attributes__") 685, val := Value.ref 385 }, { hash := PyData.keyHash PP (Str.ofString "__doc__"), key := Value.str (Str.ofString "__doc__") 686, val := Value.none }] 2 },
  { cls := Value.type "type", data := Data.cls { name := Str.ofString "BadNumber", bases := [Value.ref 24], mro := [Value.ref 387, Value.ref 24, Value.type "ValueError", Value.type "Exception", Value.type "BaseException", Value.type "object"], ns := 386, qualname := Str.ofString "BadNumber" }, slots := #[some (Value.ref 371), none, some (Value.str (Str.ofString "BadNumber") 664), some (Value.str (Str.ofString "BadNumber") 672), some (Value.builtin "ValueError.__new__"), some (Value.bool true)] },
  { cls := Value.type "super", data := Data.fields #[Value.ref 387, Value.ref 387, Value.ref 387] },
  { cls := Value.type "builtin_function_or_method", data := Data.fields #[Value.builtin "object.__init_subclass__", Value.ref 387] }]
def lit3 (PP : Params) : List Obj := [{ cls := Value.type "tuple", data := Data.seq #[Value.ref 24] },
  { cls := Value.type "builtin_function_or_method", data := Data.fields #[Value.builtin "type.__prepare__", Value.type "type"] },
  { cls := Value.type "dict", data := Data.dict #[{ hash := PyData.keyHash PP (Str.ofString "__module__"), key := Value.str (Str.ofString "__module__") 984, val := Value.str (Str.ofString "pacerose.errors") 187 }, { hash := PyData.keyHash PP (Str.ofString "__qualname__"), key := Value.str (Str.ofString "__qualname__") 986, val := Value.str (Str.ofString "BadText") 985 }, { hash := PyData.keyHash PP (Str.ofString "__firstlineno__"), key := Value.str (Str.ofString "__firstlineno__") 988, val := Value.int 102 987 }, { hash := PyData.keyHash PP (Str.ofString "__init__"), key := Value.str (Str.ofString "__init__") 996, val := Value.ref 619 }, { hash := PyData.keyHash PP (Str.ofString "__static_attributes__"), key := Value.str (Str.ofString "__static_attributes__") 998, val := Value.ref 620 }] 5 },
  { cls := Value.type "tuple", data := Data.seq #[] },
  { cls := Value.none, data := Data.fields #[Value.int 104 0, Value.int 4 0, Value.ref 618] },
  { cls := Value.type "code", data := Data.fields #[Value.str (Str.ofString "BadText") 979, Value.str (Str.ofString "BadText") 980, Value.str (Str.ofString "/claim/cut.py") 981, Value.int 102 0, Value.int 0 0, Value.int 0 0, Value.int 0 0, Value.int 0 0, Value.ref 609, Value.bool false, Value.int 181 0, Value.ref 610, Value.none, Value.none, Value.none, Value.none, Value.int 982 0, Value.int 102 0, Value.str (Str.ofString "/claim/cut.py") 983] },
  { cls := Value.type "frame", slots := #[some (Value.ref 611), some (Value.ref 3), some (Value.ref 608), none, some (Value.str (Str.ofString "pacerose.errors") 187), none, some (Value.ref 0)] },
  { cls := Value.type "tuple", data := Data.seq #[] },
  { cls := Value.none, data := Data.fields #[] },
  { cls := Value.type "tuple", data := Data.seq #[Value.str (Str.ofString "self") 992, Value.str (Str.ofString "line") 993] },
  { cls := Value.type "tuple", data := Data.seq #[] },
  { cls := Value.none, data := Data.func { name := Str.ofString "__init__", qualname := Str.ofString "BadText.__init__", params := defArgs (meth 49 0), body := FuncBody.stmts (defBody (meth 49 0)), scope := defScope (meth 49 0), globals := 0, closure := [], defaults := Value.none, kwdefaults := Value.none } },
  { cls := Value.type "code", data := Data.fields #[Value.str (Str.ofString "__init__") 989, Value.str (Str.ofString "BadText.__init__") 990, Value.str (Str.ofString "/claim/cut.py") 991, Value.int 104 0, Value.int 2 0, Value.int 0 0, Value.int 0 0, Value.int 3 0, Value.ref 613, Value.bool true, Value.int 181 0, Value.ref 614, Value.none, Value.ref 615, Value.ref 616, Value.ref 617, Value.int 994 0, Value.int 104 0, Value.str (Str.ofString "/claim/cut.py") 995] },
  { cls := Value.type "function", data := Data.func { name := Str.ofString "__init__", qualname := Str.ofString "BadText.__init__", params := defArgs (meth 49 0), body := FuncBody.stmts (defBody (meth 49 0)), scope := defScope (meth 49 0), globals := 3, closure := [], defaults := Value.none, kwdefaults := Value.none, pyModule := Value.str (Str.ofString "pacerose.errors") 187, code := Value.ref 618 } },
  { cls := Value.type "tuple", data := Data.seq #[Value.str (Str.ofString "line") 997] },
  { cls := Value.type "dict", data := Data.dict #[{ hash := PyData.keyHash PP (Str.ofString "__module__"), key := Value.str (Str.ofString "__module__") 984, val := Value.str (Str.ofString "pacerose.errors") 187 }, { hash := PyData.keyHash PP (Str.ofString "__firstlineno__"), key := Value.str (Str.ofString "__firstlineno__") 988, val := Value.int 102 987 }, { hash := PyData.keyHash PP (Str.ofString "__init__"), key := Value.str (Str.ofString "__init__") 996, val := Value.ref 619 }, { hash := PyData.keyHash PP (Str.ofString "__static_attributes__"), key := Value.str (Str.ofString "__static_attributes__") 998, val := Value.ref 620 }, { hash := PyData.keyHash PP (Str.ofString "__doc__"), key := Value.str (Str.ofString "__doc__") 999, val := Value.none }] 2 },
  { cls := Value.type "type", data := Data.cls { name := Str.ofString "BadText", bases := [Value.ref 24], mro := [Value.ref 622, Value.ref 24, Value.type "ValueError", Value.type "Exception", Value.type "BaseException", Value.type "object"], ns := 621, qualname := Str.ofString "BadText" }, slots := #[some (Value.ref 606), none, some (Value.str (Str.ofString "BadText") 977), some (Value.str (Str.ofString "BadText") 985), some (Value.builtin "ValueError.__new__"), some (Value.bool true)] },
  { cls := Value.type "super", data := Data.fields #[Value.ref 622, Value.ref 622, Value.ref 622] },
  { cls := Value.type "builtin_function_or_method", data := Data.fields #[Value.builtin "object.__init_subclass__", Value.ref 622] }]
def lit4 (PP : Params) : List Obj := [{ cls := Value.type "tuple", data := Data.seq #[Value.ref 24] },
  { cls := Value.type "builtin_function_or_method", data := Data.fields #[Value.builtin "type.__prepare__", Value.type "type"] },
  { cls := Value.type "dict", data := Data.dict #[{ hash := PyData.keyHash PP (Str.ofString "__module__"), key := Value.str (Str.ofString "__module__") 1201, val := Value.str (Str.ofString "pacerose.errors") 187 }, { hash := PyData.keyHash PP (Str.ofString "__qualname__"), key := Value.str (Str.ofString "__qualname__") 1203, val := Value.str (Str.ofString "Failed") 1202 }, { hash := PyData.keyHash PP (Str.ofString "__firstlineno__"), key := Value.str (Str.ofString "__firstlineno__") 1205, val := Value.int 130 1204 }, { hash := PyData.keyHash PP (Str.ofString "__init__"), key := Value.str (Str.ofString "__init__") 1213, val := Value.ref 782 }, { hash := PyData.keyHash PP (Str.ofString "__static_attributes__"), key := Value.str (Str.ofString "__static_attributes__") 1215, val := Value.ref 783 }] 5 },
  { cls := Value.type "tuple", data := Data.seq #[] },
  { cls := Value.none, data := Data.fields #[Value.int 132 0, Value.int 4 0, Value.ref 781] },
  { cls := Value.type "code", data := Data.fields #[Value.str (Str.ofString "Failed") 1196, Value.str (Str.ofString "Failed") 1197, Value.str (Str.ofString "/claim/cut.py") 1198, Value.int 130 0, Value.int 0 0, Value.int 0 0, Value.int 0 0, Value.int 0 0, Value.ref 772, Value.bool false, Value.int 181 0, Value.ref 773, Value.none, Value.none, Value.none, Value.none, Value.int 1199 0, Value.int 130 0, Value.str (Str.ofString "/claim/cut.py") 1200] },
  { cls := Value.type "frame", slots := #[some (Value.ref 774), some (Value.ref 3), some (Value.ref 771), none, some (Value.str (Str.ofString "pacerose.errors") 187), none, some (Value.ref 0)] },
  { cls := Value.type "tuple", data := Data.seq #[] },
  { cls := Value.none, data := Data.fields #[] },
  { cls := Value.type "tuple", data := Data.seq #[Value.str (Str.ofString "self") 1209, Value.str (Str.ofString "at") 1210] },
  { cls := Value.type "tuple", data := Data.seq #[] },
  { cls := Value.none, data := Data.func { name := Str.ofString "__init__", qualname := Str.ofString "Failed.__init__", params := defArgs (meth 62 0), body := FuncBody.stmts (defBody (meth 62 0)), scope := defScope (meth 62 0), globals := 0, closure := [], defaults := Value.none, kwdefaults := Value.none } },
  { cls := Value.type "code", data := Data.fields #[Value.str (Str.ofString "__init__") 1206, Value.str (Str.ofString "Failed.__init__") 1207, Value.str (Str.ofString "/claim/cut.py") 1208, Value.int 132 0, Value.int 2 0, Value.int 0 0, Value.int 0 0, Value.int 3 0, Value.ref 776, Value.bool true, Value.int 181 0, Value.ref 777, Value.none, Value.ref 778, Value.ref 779, Value.ref 780, Value.int 1211 0, Value.int 132 0, Value.str (Str.ofString "/claim/cut.py") 1212] },
  { cls := Value.type "function", data := Data.func { name := Str.ofString "__init__", qualname := Str.ofString "Failed.__init__", params := defArgs (meth 62 0), body := FuncBody.stmts (defBody (meth 62 0)), scope := defScope (meth 62 0), globals := 3, closure := [], defaults := Value.none, kwdefaults := Value.none, pyModule := Value.str (Str.ofString "pacerose.errors") 187, code := Value.ref 781 } },
  { cls := Value.type "tuple", data := Data.seq #[Value.str (Str.ofString "at") 1214] },
  { cls := Value.type "dict", data := Data.dict #[{ hash := PyData.keyHash PP (Str.ofString "__module__"), key := Value.str (Str.ofString "__module__") 1201, val := Value.str (Str.ofString "pacerose.errors") 187 }, { hash := PyData.keyHash PP (Str.ofString "__firstlineno__"), key := Value.str (Str.ofString "__firstlineno__") 1205, val := Value.int 130 1204 }, { hash := PyData.keyHash PP (Str.ofString "__init__"), key := Value.str (Str.ofString "__init__") 1213, val := Value.ref 782 }, { hash := PyData.keyHash PP (Str.ofString "__static_attributes__"), key := Value.str (Str.ofString "__static_attributes__") 1215, val := Value.ref 783 }, { hash := PyData.keyHash PP (Str.ofString "__doc__"), key := Value.str (Str.ofString "__doc__") 1216, val := Value.none }] 2 },
  { cls := Value.type "type", data := Data.cls { name := Str.ofString "Failed", bases := [Value.ref 24], mro := [Value.ref 785, Value.ref 24, Value.type "ValueError", Value.type "Exception", Value.type "BaseException", Value.type "object"], ns := 784, qualname := Str.ofString "Failed" }, slots := #[some (Value.ref 769), none, some (Value.str (Str.ofString "Failed") 1194), some (Value.str (Str.ofString "Failed") 1202), some (Value.builtin "ValueError.__new__"), some (Value.bool true)] },
  { cls := Value.type "super", data := Data.fields #[Value.ref 785, Value.ref 785, Value.ref 785] },
  { cls := Value.type "builtin_function_or_method", data := Data.fields #[Value.builtin "object.__init_subclass__", Value.ref 785] }]
def lit5 (PP : Params) : List Obj := [{ cls := Value.type "tuple", data := Data.seq #[Value.ref 24] },
  { cls := Value.type "builtin_function_or_method", data := Data.fields #[Value.builtin "type.__prepare__", Value.type "type"] },
  { cls := Value.type "dict", data := Data.dict #[{ hash := PyData.keyHash PP (Str.ofString "__module__"), key := Value.str (Str.ofString "__module__") 1290, val := Value.str (Str.ofString "pacerose.errors") 187 }, { hash := PyData.keyHash PP (Str.ofString "__qualname__"), key := Value.str (Str.ofString "__qualname__") 1292, val := Value.str (Str.ofString "NotClosed") 1291 }, { hash := PyData.keyHash PP (Str.ofString "__firstlineno__"), key := Value.str (Str.ofString "__firstlineno__") 1294, val := Value.int 142 1293 }, { hash := PyData.keyHash PP (Str.ofString "__init__"), key := Value.str (Str.ofString "__init__") 1302, val := Value.ref 849 }, { hash := PyData.keyHash PP (Str.ofString "__static_attributes__"), key := Value.str (Str.ofString "__static_attributes__") 1304, val := Value.ref 850 }] 5 },
  { cls := Value.type "tuple", data := Data.seq #[] },
  { cls := Value.none, data := Data.fields #[Value.int 144 0, Value.int 4 0, Value.ref 848] },
  { cls := Value.type "code", data := Data.fields #[Value.str (Str.ofString "NotClosed") 1285, Value.str (Str.ofString "NotClosed") 1286, Value.str (Str.ofString "/claim/cut.py") 1287, Value.int 142 0, Value.int 0 0, Value.int 0 0, Value.int 0 0, Value.int 0 0, Value.ref 839, Value.bool false, Value.int 181 0, Value.ref 840, Value.none, Value.none, Value.none, Value.none, Value.int 1288 0, Value.int 142 0, Value.str (Str.ofString "/claim/cut.py") 1289] },
  { cls := Value.type "frame", slots := #[some (Value.ref 841), some (Value.ref 3), some (Value.ref 838), none, some (Value.str (Str.ofString "pacerose.errors") 187), none, some (Value.ref 0)] },
  { cls := Value.type "tuple", data := Data.seq #[] },
  { cls := Value.none, data := Data.fields #[] },
  { cls := Value.type "tuple", data := Data.seq #[Value.str (Str.ofString "self") 1298, Value.str (Str.ofString "end") 1299] },
  { cls := Value.type "tuple", data := Data.seq #[] },
  { cls := Value.none, data := Data.func { name := Str.ofString "__init__", qualname := Str.ofString "NotClosed.__init__", params := defArgs (meth 67 0), body := FuncBody.stmts (defBody (meth 67 0)), scope := defScope (meth 67 0), globals := 0, closure := [], defaults := Value.none, kwdefaults := Value.none } },
  { cls := Value.type "code", data := Data.fields #[Value.str (Str.ofString "__init__") 1295, Value.str (Str.ofString "NotClosed.__init__") 1296, Value.str (Str.ofString "/claim/cut.py") 1297, Value.int 144 0, Value.int 2 0, Value.int 0 0, Value.int 0 0, Value.int 3 0, Value.ref 843, Value.bool true, Value.int 181 0, Value.ref 844, Value.none, Value.ref 845, Value.ref 846, Value.ref 847, Value.int 1300 0, Value.int 144 0, Value.str (Str.ofString "/claim/cut.py") 1301] },
  { cls := Value.type "function", data := Data.func { name := Str.ofString "__init__", qualname := Str.ofString "NotClosed.__init__", params := defArgs (meth 67 0), body := FuncBody.stmts (defBody (meth 67 0)), scope := defScope (meth 67 0), globals := 3, closure := [], defaults := Value.none, kwdefaults := Value.none, pyModule := Value.str (Str.ofString "pacerose.errors") 187, code := Value.ref 848 } },
  { cls := Value.type "tuple", data := Data.seq #[Value.str (Str.ofString "end") 1303] },
  { cls := Value.type "dict", data := Data.dict #[{ hash := PyData.keyHash PP (Str.ofString "__module__"), key := Value.str (Str.ofString "__module__") 1290, val := Value.str (Str.ofString "pacerose.errors") 187 }, { hash := PyData.keyHash PP (Str.ofString "__firstlineno__"), key := Value.str (Str.ofString "__firstlineno__") 1294, val := Value.int 142 1293 }, { hash := PyData.keyHash PP (Str.ofString "__init__"), key := Value.str (Str.ofString "__init__") 1302, val := Value.ref 849 }, { hash := PyData.keyHash PP (Str.ofString "__static_attributes__"), key := Value.str (Str.ofString "__static_attributes__") 1304, val := Value.ref 850 }, { hash := PyData.keyHash PP (Str.ofString "__doc__"), key := Value.str (Str.ofString "__doc__") 1305, val := Value.none }] 2 },
  { cls := Value.type "type", data := Data.cls { name := Str.ofString "NotClosed", bases := [Value.ref 24], mro := [Value.ref 852, Value.ref 24, Value.type "ValueError", Value.type "Exception", Value.type "BaseException", Value.type "object"], ns := 851, qualname := Str.ofString "NotClosed" }, slots := #[some (Value.ref 836), none, some (Value.str (Str.ofString "NotClosed") 1283), some (Value.str (Str.ofString "NotClosed") 1291), some (Value.builtin "ValueError.__new__"), some (Value.bool true)] },
  { cls := Value.type "super", data := Data.fields #[Value.ref 852, Value.ref 852, Value.ref 852] },
  { cls := Value.type "builtin_function_or_method", data := Data.fields #[Value.builtin "object.__init_subclass__", Value.ref 852] }]
def lit6 (PP : Params) : List Obj := [{ cls := Value.type "tuple", data := Data.seq #[Value.ref 24] },
  { cls := Value.type "builtin_function_or_method", data := Data.fields #[Value.builtin "type.__prepare__", Value.type "type"] },
  { cls := Value.type "dict", data := Data.dict #[{ hash := PyData.keyHash PP (Str.ofString "__module__"), key := Value.str (Str.ofString "__module__") 1427, val := Value.str (Str.ofString "pacerose.errors") 187 }, { hash := PyData.keyHash PP (Str.ofString "__qualname__"), key := Value.str (Str.ofString "__qualname__") 1429, val := Value.str (Str.ofString "Quarrels") 1428 }, { hash := PyData.keyHash PP (Str.ofString "__firstlineno__"), key := Value.str (Str.ofString "__firstlineno__") 1431, val := Value.int 160 1430 }, { hash := PyData.keyHash PP (Str.ofString "__init__"), key := Value.str (Str.ofString "__init__") 1439, val := Value.ref 952 }, { hash := PyData.keyHash PP (Str.ofString "__static_attributes__"), key := Value.str (Str.ofString "__static_attributes__") 1441, val := Value.ref 953 }] 5 },
  { cls := Value.type "tuple", data := Data.seq #[] },
  { cls := Value.none, data := Data.fields #[Value.int 162 0, Value.int 4 0, Value.ref 951] },
  { cls := Value.type "code", data := Data.fields #[Value.str (Str.ofString "Quarrels") 1422, Value.str (Str.ofString "Quarrels") 1423, Value.str (Str.ofString "/claim/cut.py") 1424, Value.int 160 0, Value.int 0 0, Value.int 0 0, Value.int 0 0, Value.int 0 0, Value.ref 942, Value.bool false, Value.int 181 0, Value.ref 943, Value.none, Value.none, Value.none, Value.none, Value.int 1425 0, Value.int 160 0, Value.str (Str.ofString "/claim/cut.py") 1426] },
  { cls := Value.type "frame", slots := #[some (Value.ref 944), some (Value.ref 3), some (Value.ref 941), none, some (Value.str (Str.ofString "pacerose.errors") 187), none, some (Value.ref 0)] },
  { cls := Value.type "tuple", data := Data.seq #[] },
  { cls := Value.none, data := Data.fields #[] },
  { cls := Value.type "tuple", data := Data.seq #[Value.str (Str.ofString "self") 1435, Value.str (Str.ofString "lot") 1436] },
  { cls := Value.type "tuple", data := Data.seq #[] },
  { cls := Value.none, data := Data.func { name := Str.ofString "__init__", qualname := Str.ofString "Quarrels.__init__", params := defArgs (meth 75 0), body := FuncBody.stmts (defBody (meth 75 0)), scope := defScope (meth 75 0), globals := 0, closure := [], defaults := Value.none, kwdefaults := Value.none } },
  { cls := Value.type "code", data := Data.fields #[Value.str (Str.ofString "__init__") 1432, Value.str (Str.ofString "Quarrels.__init__") 1433, Value.str (Str.ofString "/claim/cut.py") 1434, Value.int 162 0, Value.int 2 0, Value.int 0 0, Value.int 0 0, Value.int 3 0, Value.ref 946, Value.bool true, Value.int 181 0, Value.ref 947, Value.none, Value.ref 948, Value.ref 949, Value.ref 950, Value.int 1437 0, Value.int 162 0, Value.str (Str.ofString "/claim/cut.py") 1438] },
  { cls := Value.type "function", data := Data.func { name := Str.ofString "__init__", qualname := Str.ofString "Quarrels.__init__", params := defArgs (meth 75 0), body := FuncBody.stmts (defBody (meth 75 0)), scope := defScope (meth 75 0), globals := 3, closure := [], defaults := Value.none, kwdefaults := Value.none, pyModule := Value.str (Str.ofString "pacerose.errors") 187, code := Value.ref 951 } },
  { cls := Value.type "tuple", data := Data.seq #[Value.str (Str.ofString "lot") 1440] },
  { cls := Value.type "dict", data := Data.dict #[{ hash := PyData.keyHash PP (Str.ofString "__module__"), key := Value.str (Str.ofString "__module__") 1427, val := Value.str (Str.ofString "pacerose.errors") 187 }, { hash := PyData.keyHash PP (Str.ofString "__firstlineno__"), key := Value.str (Str.ofString "__firstlineno__") 1431, val := Value.int 160 1430 }, { hash := PyData.keyHash PP (Str.ofString "__init__"), key := Value.str (Str.ofString "__init__") 1439, val := Value.ref 952 }, { hash := PyData.keyHash PP (Str.ofString "__static_attributes__"), key := Value.str (Str.ofString "__static_attributes__") 1441, val := Value.ref 953 }, { hash := PyData.keyHash PP (Str.ofString "__doc__"), key := Value.str (Str.ofString "__doc__") 1442, val := Value.none }] 2 },
  { cls := Value.type "type", data := Data.cls { name := Str.ofString "Quarrels", bases := [Value.ref 24], mro := [Value.ref 955, Value.ref 24, Value.type "ValueError", Value.type "Exception", Value.type "BaseException", Value.type "object"], ns := 954, qualname := Str.ofString "Quarrels" }, slots := #[some (Value.ref 939), none, some (Value.str (Str.ofString "Quarrels") 1420), some (Value.str (Str.ofString "Quarrels") 1428), some (Value.builtin "ValueError.__new__"), some (Value.bool true)] },
  { cls := Value.type "super", data := Data.fields #[Value.ref 955, Value.ref 955, Value.ref 955] },
  { cls := Value.type "builtin_function_or_method", data := Data.fields #[Value.builtin "object.__init_subclass__", Value.ref 955] }]
def lit7 (PP : Params) : List Obj := [{ cls := Value.type "tuple", data := Data.seq #[Value.ref 24] },
  { cls := Value.type "builtin_function_or_method", data := Data.fields #[Value.builtin "type.__prepare__", Value.type "type"] },
  { cls := Value.type "dict", data := Data.dict #[{ hash := PyData.keyHash PP (Str.ofString "__module__"), key := Value.str (Str.ofString "__module__") 1452, val := Value.str (Str.ofString "pacerose.errors") 187 }, { hash := PyData.keyHash PP (Str.ofString "__qualname__"), key := Value.str (Str.ofString "__qualname__") 1454, val := Value.str (Str.ofString "TooMany") 1453 }, { hash := PyData.keyHash PP (Str.ofString "__firstlineno__"), key := Value.str (Str.ofString "__firstlineno__") 1456, val := Value.int 164 1455 }, { hash := PyData.keyHash PP (Str.ofString "__init__"), key := Value.str (Str.ofString "__init__") 1464, val := Value.ref 971 }, { hash := PyData.keyHash PP (Str.ofString "__static_attributes__"), key := Value.str (Str.ofString "__static_attributes__") 1466, val := Value.ref 972 }] 5 },
  { cls := Value.type "tuple", data := Data.seq #[] },
  { cls := Value.none, data := Data.fields #[Value.int 166 0, Value.int 4 0, Value.ref 970] },
  { cls := Value.type "code", data := Data.fields #[Value.str (Str.ofString "TooMany") 1447, Value.str (Str.ofString "TooMany") 1448, Value.str (Str.ofString "/claim/cut.py") 1449, Value.int 164 0, Value.int 0 0, Value.int 0 0, Value.int 0 0, Value.int 0 0, Value.ref 961, Value.bool false, Value.int 181 0, Value.ref 962, Value.none, Value.none, Value.none, Value.none, Value.int 1450 0, Value.int 164 0, Value.str (Str.ofString "/claim/cut.py") 1451] },
  { cls := Value.type "frame", slots := #[some (Value.ref 963), some (Value.ref 3), some (Value.ref 960), none, some (Value.str (Str.ofString "pacerose.errors") 187), none, some (Value.ref 0)] },
  { cls := Value.type "tuple", data := Data.seq #[] },
  { cls := Value.none, data := Data.fields #[] },
  { cls := Value.type "tuple", data := Data.seq #[Value.str (Str.ofString "self") 1460, Value.str (Str.ofString "most") 1461] },
  { cls := Value.type "tuple", data := Data.seq #[] },
  { cls := Value.none, data := Data.func { name := Str.ofString "__init__", qualname := Str.ofString "TooMany.__init__", params := defArgs (meth 76 0), body := FuncBody.stmts (defBody (meth 76 0)), scope := defScope (meth 76 0), globals := 0, closure := [], defaults := Value.none, kwdefaults := Value.none } },
  { cls := Value.type "code", data := Data.fields #[Value.str (Str.ofString "__init__") 1457, Value.str (Str.ofString "TooMany.__init__") 1458, Value.str (Str.ofString "/claim/cut.py") 1459, Value.int 166 0, Value.int 2 0, Value.int 0 0, Value.int 0 0, Value.int 3 0, Value.ref 965, Value.bool true, Value.int 181 0, Value.ref 966, Value.none, Value.ref 967, Value.ref 968, Value.ref 969, Value.int 1462 0, Value.int 166 0, Value.str (Str.ofString "/claim/cut.py") 1463] },
  { cls := Value.type "function", data := Data.func { name := Str.ofString "__init__", qualname := Str.ofString "TooMany.__init__", params := defArgs (meth 76 0), body := FuncBody.stmts (defBody (meth 76 0)), scope := defScope (meth 76 0), globals := 3, closure := [], defaults := Value.none, kwdefaults := Value.none, pyModule := Value.str (Str.ofString "pacerose.errors") 187, code := Value.ref 970 } },
  { cls := Value.type "tuple", data := Data.seq #[Value.str (Str.ofString "most") 1465] },
  { cls := Value.type "dict", data := Data.dict #[{ hash := PyData.keyHash PP (Str.ofString "__module__"), key := Value.str (Str.ofString "__module__") 1452, val := Value.str (Str.ofString "pacerose.errors") 187 }, { hash := PyData.keyHash PP (Str.ofString "__firstlineno__"), key := Value.str (Str.ofString "__firstlineno__") 1456, val := Value.int 164 1455 }, { hash := PyData.keyHash PP (Str.ofString "__init__"), key := Value.str (Str.ofString "__init__") 1464, val := Value.ref 971 }, { hash := PyData.keyHash PP (Str.ofString "__static_attributes__"), key := Value.str (Str.ofString "__static_attributes__") 1466, val := Value.ref 972 }, { hash := PyData.keyHash PP (Str.ofString "__doc__"), key := Value.str (Str.ofString "__doc__") 1467, val := Value.none }] 2 },
  { cls := Value.type "type", data := Data.cls { name := Str.ofString "TooMany", bases := [Value.ref 24], mro := [Value.ref 974, Value.ref 24, Value.type "ValueError", Value.type "Exception", Value.type "BaseException", Value.type "object"], ns := 973, qualname := Str.ofString "TooMany" }, slots := #[some (Value.ref 958), none, some (Value.str (Str.ofString "TooMany") 1445), some (Value.str (Str.ofString "TooMany") 1453), some (Value.builtin "ValueError.__new__"), some (Value.bool true)] },
  { cls := Value.type "super", data := Data.fields #[Value.ref 974, Value.ref 974, Value.ref 974] },
  { cls := Value.type "builtin_function_or_method", data := Data.fields #[Value.builtin "object.__init_subclass__", Value.ref 974] }]
def lit8 (PP : Params) : List Obj := [{ cls := Value.type "tuple", data := Data.seq #[] },
  { cls := Value.none, data := Data.fields #[] },
  { cls := Value.none, data := Data.func { name := Str.ofString "_law_begun", qualname := Str.ofString "_law_begun", params := defArgs (top 81), body := FuncBody.stmts (defBody (top 81)), scope := defScope (top 81), globals := 0, closure := [], defaults := Value.none, kwdefaults := Value.none } },
  { cls := Value.type "code", data := Data.fields #[Value.str (Str.ofString "_law_begun") 1520, Value.str (Str.ofString "_law_begun") 1521, Value.str (Str.ofString "/claim/cut.py") 1522, Value.int 175 0, Value.int 1 0, Value.int 0 0, Value.int 0 0, Value.int 3 0, Value.ref 1013, Value.bool true, Value.int 181 0, Value.ref 1014, Value.none, Value.none, Value.none, Value.ref 1015, Value.int 1523 0, Value.int 175 0, Value.str (Str.ofString "/claim/cut.py") 1524] },
  { cls := Value.type "function", data := Data.func { name := Str.ofString "_law_begun", qualname := Str.ofString "_law_begun", params := defArgs (top 81), body := FuncBody.stmts (defBody (top 81)), scope := defScope (top 81), globals := 3, closure := [], defaults := Value.none, kwdefaults := Value.none, pyModule := Value.str (Str.ofString "law_pacerose_k00_errors_of_all_parts") 1518, code := Value.ref 1016 } }]
def lit9 (PP : Params) : List Obj := [{ cls := Value.type "tuple", data := Data.seq #[] },
  { cls := Value.none, data := Data.fields #[] },
  { cls := Value.type "tuple", data := Data.seq #[Value.str (Str.ofString "draw") 1529, Value.str (Str.ofString "turn") 1530, Value.str (Str.ofString "found") 1531, Value.str (Str.ofString "prime") 1532, Value.str (Str.ofString "mixed") 1533, Value.str (Str.ofString "cell") 1534] },
  { cls := Value.type "tuple", data := Data.seq #[] },
  { cls := Value.none, data := Data.func { name := Str.ofString "_law_blend", qualname := Str.ofString "_law_blend", params := defArgs (top 82), body := FuncBody.stmts (defBody (top 82)), scope := defScope (top 82), globals := 0, closure := [], defaults := Value.none, kwdefaults := Value.none } },
  { cls := Value.type "code", data := Data.fields #[Value.str (Str.ofString "_law_blend") 1526, Value.str (Str.ofString "_law_blend") 1527, Value.str (Str.ofString "/claim/cut.py") 1528, Value.int 178 0, Value.int 1 0, Value.int 0 0, Value.int 0 0, Value.int 3 0, Value.ref 1018, Value.bool true, Value.int 181 0, Value.ref 1019, Value.none, Value.ref 1020, Value.ref 1021, Value.ref 1022, Value.int 1535 0, Value.int 178 0, Value.str (Str.ofString "/claim/cut.py") 1536] },
  { cls := Value.type "function", data := Data.func { name := Str.ofString "_law_blend", qualname := Str.ofString "_law_blend", params := defArgs (top 82), body := FuncBody.stmts (defBody (top 82)), scope := defScope (top 82), globals := 3, closure := [], defaults := Value.none, kwdefaults := Value.none, pyModule := Value.str (Str.ofString "law_pacerose_k00_errors_of_all_parts") 1518, code := Value.ref 1023 } }]
def lit10 (PP : Params) : List Obj := [{ cls := Value.type "tuple", data := Data.seq #[] },
  { cls := Value.none, data := Data.fields #[] },
  { cls := Value.type "tuple", data := Data.seq #[Value.str (Str.ofString "draw") 1541, Value.str (Str.ofString "size") 1542, Value.str (Str.ofString "found") 1543] },
  { cls := Value.type "tuple", data := Data.seq #[] },
  { cls := Value.none, data := Data.func { name := Str.ofString "_law_take", qualname := Str.ofString "_law_take", params := defArgs (top 83), body := FuncBody.stmts (defBody (top 83)), scope := defScope (top 83), globals := 0, closure := [], defaults := Value.none, kwdefaults := Value.none } },
  { cls := Value.type "code", data := Data.fields #[Value.str (Str.ofString "_law_take") 1538, Value.str (Str.ofString "_law_take") 1539, Value.str (Str.ofString "/claim/cut.py") 1540, Value.int 187 0, Value.int 2 0, Value.int 0 0, Value.int 0 0, Value.int 3 0, Value.ref 1025, Value.bool true, Value.int 181 0, Value.ref 1026, Value.none, Value.ref 1027, Value.ref 1028, Value.ref 1029, Value.int 1544 0, Value.int 187 0, Value.str (Str.ofString "/claim/cut.py") 1545] },
  { cls := Value.type "function", data := Data.func { name := Str.ofString "_law_take", qualname := Str.ofString "_law_take", params := defArgs (top 83), body := FuncBody.stmts (defBody (top 83)), scope := defScope (top 83), globals := 3, closure := [], defaults := Value.none, kwdefaults := Value.none, pyModule := Value.str (Str.ofString "law_pacerose_k00_errors_of_all_parts") 1518, code := Value.ref 1030 } }]
def lit11 (PP : Params) : List Obj := [{ cls := Value.type "tuple", data := Data.seq #[] },
  { cls := Value.none, data := Data.fields #[] },
  { cls := Value.type "tuple", data := Data.seq #[Value.str (Str.ofString "draw") 1550, Value.str (Str.ofString "some") 1551] },
  { cls := Value.type "tuple", data := Data.seq #[] },
  { cls := Value.none, data := Data.func { name := Str.ofString "_law_pick", qualname := Str.ofString "_law_pick", params := defArgs (top 84), body := FuncBody.stmts (defBody (top 84)), scope := defScope (top 84), globals := 0, closure := [], defaults := Value.none, kwdefaults := Value.none } },
  { cls := Value.type "code", data := Data.fields #[Value.str (Str.ofString "_law_pick") 1547, Value.str (Str.ofString "_law_pick") 1548, Value.str (Str.ofString "/claim/cut.py") 1549, Value.int 195 0, Value.int 2 0, Value.int 0 0, Value.int 0 0, Value.int 3 0, Value.ref 1032, Value.bool true, Value.int 181 0, Value.ref 1033, Value.none, Value.ref 1034, Value.ref 1035, Value.ref 1036, Value.int 1552 0, Value.int 195 0, Value.str (Str.ofString "/claim/cut.py") 1553] },
  { cls := Value.type "function", data := Data.func { name := Str.ofString "_law_pick", qualname := Str.ofString "_law_pick", params := defArgs (top 84), body := FuncBody.stmts (defBody (top 84)), scope := defScope (top 84), globals := 3, closure := [], defaults := Value.none, kwdefaults := Value.none, pyModule := Value.str (Str.ofString "law_pacerose_k00_errors_of_all_parts") 1518, code := Value.ref 1037 } }]
def lit12 (PP : Params) : List Obj := [{ cls := Value.type "tuple", data := Data.seq #[] },
  { cls := Value.none, data := Data.fields #[] },
  { cls := Value.type "tuple", data := Data.seq #[Value.str (Str.ofString "error") 1558, Value.str (Str.ofString "found") 1559] },
  { cls := Value.type "tuple", data := Data.seq #[] },
  { cls := Value.none, data := Data.func { name := Str.ofString "_law_kinds", qualname := Str.ofString "_law_kinds", params := defArgs (top 85), body := FuncBody.stmts (defBody (top 85)), scope := defScope (top 85), globals := 0, closure := [], defaults := Value.none, kwdefaults := Value.none } },
  { cls := Value.type "code", data := Data.fields #[Value.str (Str.ofString "_law_kinds") 1555, Value.str (Str.ofString "_law_kinds") 1556, Value.str (Str.ofString "/claim/cut.py") 1557, Value.int 197 0, Value.int 1 0, Value.int 0 0, Value.int 0 0, Value.int 3 0, Value.ref 1039, Value.bool true, Value.int 181 0, Value.ref 1040, Value.none, Value.ref 1041, Value.ref 1042, Value.ref 1043, Value.int 1560 0, Value.int 197 0, Value.str (Str.ofString "/claim/cut.py") 1561] },
  { cls := Value.type "function", data := Data.func { name := Str.ofString "_law_kinds", qualname := Str.ofString "_law_kinds", params := defArgs (top 85), body := FuncBody.stmts (defBody (top 85)), scope := defScope (top 85), globals := 3, closure := [], defaults := Value.none, kwdefaults := Value.none, pyModule := Value.str (Str.ofString "law_pacerose_k00_errors_of_all_parts") 1518, code := Value.ref 1044 } }]
def lit13 (PP : Params) : List Obj := [{ cls := Value.type "tuple", data := Data.seq #[] },
  { cls := Value.none, data := Data.fields #[] },
  { cls := Value.type "tuple", data := Data.seq #[Value.str (Str.ofString "words") 1566, Value.str (Str.ofString "found") 1567] },
  { cls := Value.type "tuple", data := Data.seq #[] },
  { cls := Value.none, data := Data.func { name := Str.ofString "_law_plain_errors", qualname := Str.ofString "_law_plain_errors", params := defArgs (top 86), body := FuncBody.stmts (defBody (top 86)), scope := defScope (top 86), globals := 0, closure := [], defaults := Value.none, kwdefaults := Value.none } },
  { cls := Value.type "code", data := Data.fields #[Value.str (Str.ofString "_law_plain_errors") 1563, Value.str (Str.ofString "_law_plain_errors") 1564, Value.str (Str.ofString "/claim/cut.py") 1565, Value.int 226 0, Value.int 1 0, Value.int 0 0, Value.int 0 0, Value.int 3 0, Value.ref 1046, Value.bool true, Value.int 181 0, Value.ref 1047, Value.none, Value.ref 1048, Value.ref 1049, Value.ref 1050, Value.int 1568 0, Value.int 226 0, Value.str (Str.ofString "/claim/cut.py") 1569] },
  { cls := Value.type "function", data := Data.func { name := Str.ofString "_law_plain_errors", qualname := Str.ofString "_law_plain_errors", params := defArgs (top 86), body := FuncBody.stmts (defBody (top 86)), scope := defScope (top 86), globals := 3, closure := [], defaults := Value.none, kwdefaults := Value.none, pyModule := Value.str (Str.ofString "law_pacerose_k00_errors_of_all_parts") 1518, code := Value.ref 1051 } }]
def lit14 (PP : Params) : List Obj := [{ cls := Value.type "tuple", data := Data.seq #[] },
  { cls := Value.none, data := Data.fields #[] },
  { cls := Value.type "tuple", data := Data.seq #[Value.str (Str.ofString "thing") 1574, Value.str (Str.ofString "found") 1575] },
  { cls := Value.type "tuple", data := Data.seq #[] },
  { cls := Value.none, data := Data.func { name := Str.ofString "_law_told_errors", qualname := Str.ofString "_law_told_errors", params := defArgs (top 87), body := FuncBody.stmts (defBody (top 87)), scope := defScope (top 87), globals := 0, closure := [], defaults := Value.none, kwdefaults := Value.none } },
  { cls := Value.type "code", data := Data.fields #[Value.str (Str.ofString "_law_told_errors") 1571, Value.str (Str.ofString "_law_told_errors") 1572, Value.str (Str.ofString "/claim/cut.py") 1573, Value.int 247 0, Value.int 1 0, Value.int 0 0, Value.int 0 0, Value.int 3 0, Value.ref 1053, Value.bool true, Value.int 181 0, Value.ref 1054, Value.none, Value.ref 1055, Value.ref 1056, Value.ref 1057, Value.int 1576 0, Value.int 247 0, Value.str (Str.ofString "/claim/cut.py") 1577] },
  { cls := Value.type "function", data := Data.func { name := Str.ofString "_law_told_errors", qualname := Str.ofString "_law_told_errors", params := defArgs (top 87), body := FuncBody.stmts (defBody (top 87)), scope := defScope (top 87), globals := 3, closure := [], defaults := Value.none, kwdefaults := Value.none, pyModule := Value.str (Str.ofString "law_pacerose_k00_errors_of_all_parts") 1518, code := Value.ref 1058 } }]
def lit15 (PP : Params) : List Obj := [{ cls := Value.type "tuple", data := Data.seq #[] },
  { cls := Value.none, data := Data.fields #[] },
  { cls := Value.type "tuple", data := Data.seq #[Value.str (Str.ofString "draw") 1582, Value.str (Str.ofString "some") 1583] },
  { cls := Value.type "tuple", data := Data.seq #[] },
  { cls := Value.none, data := Data.func { name := Str.ofString "_law_any", qualname := Str.ofString "_law_any", params := defArgs (top 88), body := FuncBody.stmts (defBody (top 88)), scope := defScope (top 88), globals := 0, closure := [], defaults := Value.none, kwdefaults := Value.none } },
  { cls := Value.type "code", data := Data.fields #[Value.str (Str.ofString "_law_any") 1579, Value.str (Str.ofString "_law_any") 1580, Value.str (Str.ofString "/claim/cut.py") 1581, Value.int 257 0, Value.int 1 0, Value.int 0 0, Value.int 0 0, Value.int 3 0, Value.ref 1060, Value.bool true, Value.int 181 0, Value.ref 1061, Value.none, Value.ref 1062, Value.ref 1063, Value.ref 1064, Value.int 1584 0, Value.int 257 0, Value.str (Str.ofString "/claim/cut.py") 1585] },
  { cls := Value.type "function", data := Data.func { name := Str.ofString "_law_any", qualname := Str.ofString "_law_any", params := defArgs (top 88), body := FuncBody.stmts (defBody (top 88)), scope := defScope (top 88), globals := 3, closure := [], defaults := Value.none, kwdefaults := Value.none, pyModule := Value.str (Str.ofString "law_pacerose_k00_errors_of_all_parts") 1518, code := Value.ref 1065 } }]
def lit16 (PP : Params) : List Obj := [{ cls := Value.type "tuple", data := Data.seq #[] },
  { cls := Value.none, data := Data.fields #[] },
  { cls := Value.none, data := Data.func { name := Str.ofString "law", qualname := Str.ofString "law", params := defArgs (top 89), body := FuncBody.stmts (defBody (top 89)), scope := defScope (top 89), globals := 0, closure := [], defaults := Value.none, kwdefaults := Value.none } },
  { cls := Value.type "code", data := Data.fields #[Value.str (Str.ofString "law") 1587, Value.str (Str.ofString "law") 1588, Value.str (Str.ofString "/claim/cut.py") 1589, Value.int 260 0, Value.int 1 0, Value.int 0 0, Value.int 0 0, Value.int 3 0, Value.ref 1067, Value.bool true, Value.int 181 0, Value.ref 1068, Value.none, Value.none, Value.none, Value.ref 1069, Value.int 1590 0, Value.int 260 0, Value.str (Str.ofString "/claim/cut.py") 1591] },
  { cls := Value.type "function", data := Data.func { name := Str.ofString "law", qualname := Str.ofString "law", params := defArgs (top 89), body := FuncBody.stmts (defBody (top 89)), scope := defScope (top 89), globals := 3, closure := [], defaults := Value.none, kwdefaults := Value.none, pyModule := Value.str (Str.ofString "law_pacerose_k00_errors_of_all_parts") 1518, code := Value.ref 1070 } }]
def objsZ (PP : Params) : List Obj := [boot_o_0 PP, boot_o_1 PP, boot_o_2 PP, boot_o_3 PP, boot_o_4 PP, boot_o_5 PP, boot_o_6 PP, boot_o_7 PP, boot_o_8 PP, boot_o_9 PP, boot_o_10 PP]
def oP3 (PP : Params) : Obj := { cls := Value.type "dict", data := Data.dict #[{ hash := PyData.keyHash PP (Str.ofString "__name__"), key := Value.str (Str.ofString "__name__") 165, val := Value.str (Str.ofString "__main__") 164 }, { hash := PyData.keyHash PP (Str.ofString "__doc__"), key := Value.str (Str.ofString "__doc__") 166, val := Value.none }, { hash := PyData.keyHash PP (Str.ofString "__package__"), key := Value.str (Str.ofString "__package__") 167, val := Value.none }, { hash := PyData.keyHash PP (Str.ofString "__loader__"), key := Value.str (Str.ofString "__loader__") 168, val := Value.builtin "__main__.__loader__#opaque" }, { hash := PyData.keyHash PP (Str.ofString "__spec__"), key := Value.str (Str.ofString "__spec__") 169, val := Value.none }, { hash := PyData.keyHash PP (Str.ofString "__annotations__"), key := Value.str (Str.ofString "__annotations__") 170, val := Value.ref 6 }, { hash := PyData.keyHash PP (Str.ofString "__builtins__"), key := Value.str (Str.ofString "__builtins__") 171, val := Value.ref 4 }, { hash := PyData.keyHash PP (Str.ofString "__file__"), key := Value.str (Str.ofString "__file__") 173, val := Value.str (Str.ofString "/claim/cut.py") 172 }, { hash := PyData.keyHash PP (Str.ofString "__cached__"), key := Value.str (Str.ofString "__cached__") 174, val := Value.none }] 9 }
def oP12 : Obj := { cls := Value.none, data := Data.fields #[] }
def objsP (PP : Params) : List Obj := [boot_o_0 PP, boot_o_1 PP, boot_o_2 PP, oP3 PP, boot_o_4 PP, boot_o_5 PP, boot_o_6 PP, boot_o_7 PP, boot_o_8 PP, boot_o_9 PP, boot_o_10 PP, { cls := Value.type "tuple", data := Data.seq #[] }, oP12, { cls := Value.type "code", data := Data.fields #[Value.str (Str.ofString "<module>") 182, Value.str (Str.ofString "<module>") 183, Value.str (Str.ofString "/claim/cut.py") 184, Value.int 1 0, Value.int 0 0, Value.int 0 0, Value.int 0 0, Value.int 0 0, Value.ref 11, Value.bool false, Value.int 181 0, Value.ref 12, Value.none, Value.none, Value.none, Value.none, Value.int 185 0, Value.int 1 0, Value.str (Str.ofString "/claim/cut.py") 186] }, { cls := Value.type "frame", slots := #[some (Value.ref 13), some (Value.ref 3), some (Value.ref 3), none, some (Value.str (Str.ofString "__main__") 164), none, some (Value.ref 0)] }]
def oA3 (PP : Params) : Obj := { cls := Value.type "dict", data := Data.dict #[{ hash := PyData.keyHash PP (Str.ofString "__name__"), key := Value.str (Str.ofString "__name__") 165, val := Value.str (Str.ofString "pacerose.errors") 187 }, { hash := PyData.keyHash PP (Str.ofString "__doc__"), key := Value.str (Str.ofString "__doc__") 166, val := Value.none }, { hash := PyData.keyHash PP (Str.ofString "__package__"), key := Value.str (Str.ofString "__package__") 167, val := Value.none }, { hash := PyData.keyHash PP (Str.ofString "__loader__"), key := Value.str (Str.ofString "__loader__") 168, val := Value.builtin "__main__.__loader__#opaque" }, { hash := PyData.keyHash PP (Str.ofString "__spec__"), key := Value.str (Str.ofString "__spec__") 169, val := Value.none }, { hash := PyData.keyHash PP (Str.ofString "__annotations__"), key := Value.str (Str.ofString "__annotations__") 170, val := Value.ref 6 }, { hash := PyData.keyHash PP (Str.ofString "__builtins__"), key := Value.str (Str.ofString "__builtins__") 171, val := Value.ref 4 }, { hash := PyData.keyHash PP (Str.ofString "__file__"), key := Value.str (Str.ofString "__file__") 173, val := Value.str (Str.ofString "/claim/cut.py") 172 }, { hash := PyData.keyHash PP (Str.ofString "__cached__"), key := Value.str (Str.ofString "__cached__") 174, val := Value.none }, { hash := PyData.keyHash PP (Str.ofString "RoseError"), key := Value.str (Str.ofString "RoseError") 206, val := Value.ref 24 }, { hash := PyData.keyHash PP (Str.ofString "Asked"), key := Value.str (Str.ofString "Asked") 222, val := Value.ref 37 }, { hash := PyData.keyHash PP (Str.ofString "BadAt"), key := Value.str (Str.ofString "BadAt") 238, val := Value.ref 49 }, { hash := PyData.keyHash PP (Str.ofString "BadAtlas"), key := Value.str (Str.ofString "BadAtlas") 254, val := Value.ref 61 }, { hash := PyData.keyHash PP (Str.ofString "BadClaim"), key := Value.str (Str.ofString "BadClaim") 270, val := Value.ref 73 }, { hash := PyData.keyHash PP (Str.ofString "BadColumns"), key := Value.str (Str.ofString "BadColumns") 286, val := Value.ref 85 }, { hash := PyData.keyHash PP (Str.ofString "BadCosts"), key := Value.str (Str.ofString "BadCosts") 302, val := Value.ref 97 }, { hash := PyData.keyHash PP (Str.ofString "BadCount"), key := Value.str (Str.ofString "BadCount") 318, val := Value.ref 109 }, { hash := PyData.keyHash PP (Str.ofString "BadCounts"), key := Value.str (Str.ofString "BadCounts") 334, val := Value.ref 121 }, { hash := PyData.keyHash PP (Str.ofString "BadDeed"), key := Value.str (Str.ofString "BadDeed") 350, val := Value.ref 133 }, { hash := PyData.keyHash PP (Str.ofString "BadDeeds"), key := Value.str (Str.ofString "BadDeeds") 366, val := Value.ref 145 }, { hash := PyData.keyHash PP (Str.ofString "BadDrift"), key := Value.str (Str.ofString "BadDrift") 391, val := Value.ref 164 }, { hash := PyData.keyHash PP (Str.ofString "BadEnds"), key := Value.str (Str.ofString "BadEnds") 407, val := Value.ref 176 }, { hash := PyData.keyHash PP (Str.ofString "BadErrand"), key := Value.str (Str.ofString "BadErrand") 423, val := Value.ref 188 }, { hash := PyData.keyHash PP (Str.ofString "BadExtra"), key := Value.str (Str.ofString "BadExtra") 439, val := Value.ref 200 }, { hash := PyData.keyHash PP (Str.ofString "BadFact"), key := Value.str (Str.ofString "BadFact") 455, val := Value.ref 212 }, { hash := PyData.keyHash PP (Str.ofString "BadFacts"), key := Value.str (Str.ofString "BadFacts") 471, val := Value.ref 224 }, { hash := PyData.keyHash PP (Str.ofString "BadFlow"), key := Value.str (Str.ofString "BadFlow") 487, val := Value.ref 236 }, { hash := PyData.keyHash PP (Str.ofString "BadGoal"), key := Value.str (Str.ofString "BadGoal") 503, val := Value.ref 248 }, { hash := PyData.keyHash PP (Str.ofString "BadHigh"), key := Value.str (Str.ofString "BadHigh") 519, val := Value.ref 260 }, { hash := PyData.keyHash PP (Str.ofString "BadIndex"), key := Value.str (Str.ofString "BadIndex") 535, val := Value.ref 272 }, { hash := PyData.keyHash PP (Str.ofString "BadIndexes"), key := Value.str (Str.ofString "BadIndexes") 551, val := Value.ref 284 }, { hash := PyData.keyHash PP (Str.ofString "BadKind"), key := Value.str (Str.ofString "BadKind") 567, val := Value.ref 296 }, { hash := PyData.keyHash PP (Str.ofString "BadLine"), key := Value.str (Str.ofString "BadLine") 583, val := Value.ref 308 }, { hash := PyData.keyHash PP (Str.ofString "BadLog"), key := Value.str (Str.ofString "BadLog") 599, val := Value.ref 320 }, { hash := PyData.keyHash PP (Str.ofString "BadLot"), key := Value.str (Str.ofString "BadLot") 615, val := Value.ref 332 }, { hash := PyData.keyHash PP (Str.ofString "BadLow"), key := Value.str (Str.ofString "BadLow") 631, val := Value.ref 344 }, { hash := PyData.keyHash PP (Str.ofString "BadMix"), key := Value.str (Str.ofString "BadMix") 647, val := Value.ref 356 }] 37 }
def oA12 : Obj := { cls := Value.none, data := Data.fields #[Value.int 2 0, Value.int 0 0, Value.ref 20, Value.int 4 0, Value.int 0 0, Value.ref 33, Value.int 6 0, Value.int 0 0, Value.ref 45, Value.int 8 0, Value.int 0 0, Value.ref 57, Value.int 10 0, Value.int 0 0, Value.ref 69, Value.int 12 0, Value.int 0 0, Value.ref 81, Value.int 14 0, Value.int 0 0, Value.ref 93, Value.int 16 0, Value.int 0 0, Value.ref 105, Value.int 18 0, Value.int 0 0, Value.ref 117, Value.int 20 0, Value.int 0 0, Value.ref 129, Value.int 22 0, Value.int 0 0, Value.ref 141, Value.int 24 0, Value.int 0 0, Value.ref 153, Value.int 28 0, Value.int 0 0, Value.ref 172, Value.int 30 0, Value.int 0 0, Value.ref 184, Value.int 32 0, Value.int 0 0, Value.ref 196, Value.int 34 0, Value.int 0 0, Value.ref 208, Value.int 36 0, Value.int 0 0, Value.ref 220, Value.int 38 0, Value.int 0 0, Value.ref 232, Value.int 40 0, Value.int 0 0, Value.ref 244, Value.int 42 0, Value.int 0 0, Value.ref 256, Value.int 44 0, Value.int 0 0, Value.ref 268, Value.int 46 0, Value.int 0 0, Value.ref 280, Value.int 48 0, Value.int 0 0, Value.ref 292, Value.int 50 0, Value.int 0 0, Value.ref 304, Value.int 52 0, Value.int 0 0, Value.ref 316, Value.int 54 0, Value.int 0 0, Value.ref 328, Value.int 56 0, Value.int 0 0, Value.ref 340, Value.int 58 0, Value.int 0 0, Value.ref 352] }
def subsA : List Value := [Value.ref 37, Value.ref 49, Value.ref 61, Value.ref 73, Value.ref 85, Value.ref 97, Value.ref 109, Value.ref 121, Value.ref 133, Value.ref 145, Value.ref 164, Value.ref 176, Value.ref 188, Value.ref 200, Value.ref 212, Value.ref 224, Value.ref 236, Value.ref 248, Value.ref 260, Value.ref 272, Value.ref 284, Value.ref 296, Value.ref 308, Value.ref 320, Value.ref 332, Value.ref 344, Value.ref 356]
def objsA (PP : Params) : List Obj := [boot_o_0 PP, boot_o_1 PP, boot_o_2 PP, oA3 PP, boot_o_4 PP, boot_o_5 PP, boot_o_6 PP, boot_o_7 PP, boot_o_8 PP, boot_o_9 PP, boot_o_10 PP, { cls := Value.type "tuple", data := Data.seq #[] }, oA12, { cls := Value.type "code", data := Data.fields #[Value.str (Str.ofString "<module>") 182, Value.str (Str.ofString "<module>") 183, Value.str (Str.ofString "/claim/cut.py") 184, Value.int 1 0, Value.int 0 0, Value.int 0 0, Value.int 0 0, Value.int 0 0, Value.ref 11, Value.bool false, Value.int 181 0, Value.ref 12, Value.none, Value.none, Value.none, Value.none, Value.int 185 0, Value.int 1 0, Value.str (Str.ofString "/claim/cut.py") 186] }, { cls := Value.type "frame", slots := #[some (Value.ref 13), some (Value.ref 3), some (Value.ref 3), none, some (Value.str (Str.ofString "__main__") 164), none, some (Value.ref 0)] }] ++ (lit0 PP subsA ++ (cls PP (Str.ofString "Asked") 28 207 4 ++ (cls PP (Str.ofString "BadAt") 40 223 6 ++ (cls PP (Str.ofString "BadAtlas") 52 239 8 ++ (cls PP (Str.ofString "BadClaim") 64 255 10 ++ (cls PP (Str.ofString "BadColumns") 76 271 12 ++ (cls PP (Str.ofString "BadCosts") 88 287 14 ++ (cls PP (Str.ofString "BadCount") 100 303 16 ++ (cls PP (Str.ofString "BadCounts") 112 319 18 ++ (cls PP (Str.ofString "BadDeed") 124 335 20 ++ (cls PP (Str.ofString "BadDeeds") 136 351 22 ++ (lit1 PP ++ (cls PP (Str.ofString "BadEnds") 167 392 28 ++ (cls PP (Str.ofString "BadErrand") 179 408 30 ++ (cls PP (Str.ofString "BadExtra") 191 424 32 ++ (cls PP (Str.ofString "BadFact") 203 440 34 ++ (cls PP (Str.ofString "BadFacts") 215 456 36 ++ (cls PP (Str.ofString "BadFlow") 227 472 38 ++ (cls PP (Str.ofString "BadGoal") 239 488 40 ++ (cls PP (Str.ofString "BadHigh") 251 504 42 ++ (cls PP (Str.ofString "BadIndex") 263 520 44 ++ (cls PP (Str.ofString "BadIndexes") 275 536 46 ++ (cls PP (Str.ofString "BadKind") 287 552 48 ++ (cls PP (Str.ofString "BadLine") 299 568 50 ++ (cls PP (Str.ofString "BadLog") 311 584 52 ++ (cls PP (Str.ofString "BadLot") 323 600 54 ++ (cls PP (Str.ofString "BadLow") 335 616 56 ++ (cls PP (Str.ofString "BadMix") 347 632 58))))))))))))))))))))))))))))
def oB3 (PP : Params) : Obj := { cls := Value.type "dict", data := Data.dict #[{ hash := PyData.keyHash PP (Str.ofString "__name__"), key := Value.str (Str.ofString "__name__") 165, val := Value.str (Str.ofString "pacerose.errors") 187 }, { hash := PyData.keyHash PP (Str.ofString "__doc__"), key := Value.str (Str.ofString "__doc__") 166, val := Value.none }, { hash := PyData.keyHash PP (Str.ofString "__package__"), key := Value.str (Str.ofString "__package__") 167, val := Value.none }, { hash := PyData.keyHash PP (Str.ofString "__loader__"), key := Value.str (Str.ofString "__loader__") 168, val := Value.builtin "__main__.__loader__#opaque" }, { hash := PyData.keyHash PP (Str.ofString "__spec__"), key := Value.str (Str.ofString "__spec__") 169, val := Value.none }, { hash := PyData.keyHash PP (Str.ofString "__annotations__"), key := Value.str (Str.ofString "__annotations__") 170, val := Value.ref 6 }, { hash := PyData.keyHash PP (Str.ofString "__builtins__"), key := Value.str (Str.ofString "__builtins__") 171, val := Value.ref 4 }, { hash := PyData.keyHash PP (Str.ofString "__file__"), key := Value.str (Str.ofString "__file__") 173, val := Value.str (Str.ofString "/claim/cut.py") 172 }, { hash := PyData.keyHash PP (Str.ofString "__cached__"), key := Value.str (Str.ofString "__cached__") 174, val := Value.none }, { hash := PyData.keyHash PP (Str.ofString "RoseError"), key := Value.str (Str.ofString "RoseError") 206, val := Value.ref 24 }, { hash := PyData.keyHash PP (Str.ofString "Asked"), key := Value.str (Str.ofString "Asked") 222, val := Value.ref 37 }, { hash := PyData.keyHash PP (Str.ofString "BadAt"), key := Value.str (Str.ofString "BadAt") 238, val := Value.ref 49 }, { hash := PyData.keyHash PP (Str.ofString "BadAtlas"), key := Value.str (Str.ofString "BadAtlas") 254, val := Value.ref 61 }, { hash := PyData.keyHash PP (Str.ofString "BadClaim"), key := Value.str (Str.ofString "BadClaim") 270, val := Value.ref 73 }, { hash := PyData.keyHash PP (Str.ofString "BadColumns"), key := Value.str (Str.ofString "BadColumns") 286, val := Value.ref 85 }, { hash := PyData.keyHash PP (Str.ofString "BadCosts"), key := Value.str (Str.ofString "BadCosts") 302, val := Value.ref 97 }, { hash := PyData.keyHash PP (Str.ofString "BadCount"), key := Value.str (Str.ofString "BadCount") 318, val := Value.ref 109 }, { hash := PyData.keyHash PP (Str.ofString "BadCounts"), key := Value.str (Str.ofString "BadCounts") 334, val := Value.ref 121 }, { hash := PyData.keyHash PP (Str.ofString "BadDeed"), key := Value.str (Str.ofString "BadDeed") 350, val := Value.ref 133 }, { hash := PyData.keyHash PP (Str.ofString "BadDeeds"), key := Value.str (Str.ofString "BadDeeds") 366, val := Value.ref 145 }, { hash := PyData.keyHash PP (Str.ofString "BadDrift"), key := Value.str (Str.ofString "BadDrift") 391, val := Value.ref 164 }, { hash := PyData.keyHash PP (Str.ofString "BadEnds"), key := Value.str (Str.ofString "BadEnds") 407, val := Value.ref 176 }, { hash := PyData.keyHash PP (Str.ofString "BadErrand"), key := Value.str (Str.ofString "BadErrand") 423, val := Value.ref 188 }, { hash := PyData.keyHash PP (Str.ofString "BadExtra"), key := Value.str (Str.ofString "BadExtra") 439, val := Value.ref 200 }, { hash := PyData.keyHash PP (Str.ofString "BadFact"), key := Value.str (Str.ofString "BadFact") 455, val := Value.ref 212 }, { hash := PyData.keyHash PP (Str.ofString "BadFacts"), key := Value.str (Str.ofString "BadFacts") 471, val := Value.ref 224 }, { hash := PyData.keyHash PP (Str.ofString "BadFlow"), key := Value.str (Str.ofString "BadFlow") 487, val := Value.ref 236 }, { hash := PyData.keyHash PP (Str.ofString "BadGoal"), key := Value.str (Str.ofString "BadGoal") 503, val := Value.ref 248 }, { hash := PyData.keyHash PP (Str.ofString "BadHigh"), key := Value.str (Str.ofString "BadHigh") 519, val := Value.ref 260 }, { hash := PyData.keyHash PP (Str.ofString "BadIndex"), key := Value.str (Str.ofString "BadIndex") 535, val := Value.ref 272 }, { hash := PyData.keyHash PP (Str.ofString "BadIndexes"), key := Value.str (Str.ofString "BadIndexes") 551, val := Value.ref 284 }, { hash := PyData.keyHash PP (Str.ofString "BadKind"), key := Value.str (Str.ofString "BadKind") 567, val := Value.ref 296 }, { hash := PyData.keyHash PP (Str.ofString "BadLine"), key := Value.str (Str.ofString "BadLine") 583, val := Value.ref 308 }, { hash := PyData.keyHash PP (Str.ofString "BadLog"), key := Value.str (Str.ofString "BadLog") 599, val := Value.ref 320 }, { hash := PyData.keyHash PP (Str.ofString "BadLot"), key := Value.str (Str.ofString "BadLot") 615, val := Value.ref 332 }, { hash := PyData.keyHash PP (Str.ofString "BadLow"), key := Value.str (Str.ofString "BadLow") 631, val := Value.ref 344 }, { hash := PyData.keyHash PP (Str.ofString "BadMix"), key := Value.str (Str.ofString "BadMix") 647, val := Value.ref 356 }, { hash := PyData.keyHash PP (Str.ofString "BadNet"), key := Value.str (Str.ofString "BadNet") 663, val := Value.ref 368 }, { hash := PyData.keyHash PP (Str.ofString "BadNumber"), key := Value.str (Str.ofString "BadNumber") 688, val := Value.ref 387 }, { hash := PyData.keyHash PP (Str.ofString "BadPair"), key := Value.str (Str.ofString "BadPair") 704, val := Value.ref 399 }, { hash := PyData.keyHash PP (Str.ofString "BadPairs"), key := Value.str (Str.ofString "BadPairs") 720, val := Value.ref 411 }, { hash := PyData.keyHash PP (Str.ofString "BadParty"), key := Value.str (Str.ofString "BadParty") 736, val := Value.ref 423 }, { hash := PyData.keyHash PP (Str.ofString "BadPath"), key := Value.str (Str.ofString "BadPath") 752, val := Value.ref 435 }, { hash := PyData.keyHash PP (Str.ofString "BadPlace"), key := Value.str (Str.ofString "BadPlace") 768, val := Value.ref 447 }, { hash := PyData.keyHash PP (Str.ofString "BadPlaces"), key := Value.str (Str.ofString "BadPlaces") 784, val := Value.ref 459 }, { hash := PyData.keyHash PP (Str.ofString "BadRatio"), key := Value.str (Str.ofString "BadRatio") 800, val := Value.ref 471 }, { hash := PyData.keyHash PP (Str.ofString "BadRose"), key := Value.str (Str.ofString "BadRose") 816, val := Value.ref 483 }, { hash := PyData.keyHash PP (Str.ofString "BadRoutes"), key := Value.str (Str.ofString "BadRoutes") 832, val := Value.ref 495 }, { hash := PyData.keyHash PP (Str.ofString "BadRow"), key := Value.str (Str.ofString "BadRow") 848, val := Value.ref 507 }, { hash := PyData.keyHash PP (Str.ofString "BadRows"), key := Value.str (Str.ofString "BadRows") 864, val := Value.ref 519 }, { hash := PyData.keyHash PP (Str.ofString "BadScale"), key := Value.str (Str.ofString "BadScale") 880, val := Value.ref 531 }, { hash := PyData.keyHash PP (Str.ofString "BadSize"), key := Value.str (Str.ofString "BadSize") 896, val := Value.ref 543 }, { hash := PyData.keyHash PP (Str.ofString "BadSpot"), key := Value.str (Str.ofString "BadSpot") 912, val := Value.ref 555 }, { hash := PyData.keyHash PP (Str.ofString "BadStep"), key := Value.str (Str.ofString "BadStep") 928, val := Value.ref 567 }, { hash := PyData.keyHash PP (Str.ofString "BadSteps"), key := Value.str (Str.ofString "BadSteps") 944, val := Value.ref 579 }, { hash := PyData.keyHash PP (Str.ofString "BadTable"), key := Value.str (Str.ofString "BadTable") 960, val := Value.ref 591 }, { hash := PyData.keyHash PP (Str.ofString "BadTables"), key := Value.str (Str.ofString "BadTables") 976, val := Value.ref 603 }, { hash := PyData.keyHash PP (Str.ofString "BadText"), key := Value.str (Str.ofString "BadText") 1001, val := Value.ref 622 }, { hash := PyData.keyHash PP (Str.ofString "BadTie"), key := Value.str (Str.ofString "BadTie") 1017, val := Value.ref 634 }, { hash := PyData.keyHash PP (Str.ofString "BadTies"), key := Value.str (Str.ofString "BadTies") 1033, val := Value.ref 646 }, { hash := PyData.keyHash PP (Str.ofString "BadTime"), key := Value.str (Str.ofString "BadTime") 1049, val := Value.ref 658 }, { hash := PyData.keyHash PP (Str.ofString "BadTimes"), key := Value.str (Str.ofString "BadTimes") 1065, val := Value.ref 670 }, { hash := PyData.keyHash PP (Str.ofString "BadTrip"), key := Value.str (Str.ofString "BadTrip") 1081, val := Value.ref 682 }, { hash := PyData.keyHash PP (Str.ofString "BadTrips"), key := Value.str (Str.ofString "BadTrips") 1097, val := Value.ref 694 }] 64 }
def oB12 : Obj := { cls := Value.none, data := Data.fields #[Value.int 2 0, Value.int 0 0, Value.ref 20, Value.int 4 0, Value.int 0 0, Value.ref 33, Value.int 6 0, Value.int 0 0, Value.ref 45, Value.int 8 0, Value.int 0 0, Value.ref 57, Value.int 10 0, Value.int 0 0, Value.ref 69, Value.int 12 0, Value.int 0 0, Value.ref 81, Value.int 14 0, Value.int 0 0, Value.ref 93, Value.int 16 0, Value.int 0 0, Value.ref 105, Value.int 18 0, Value.int 0 0, Value.ref 117, Value.int 20 0, Value.int 0 0, Value.ref 129, Value.int 22 0, Value.int 0 0, Value.ref 141, Value.int 24 0, Value.int 0 0, Value.ref 153, Value.int 28 0, Value.int 0 0, Value.ref 172, Value.int 30 0, Value.int 0 0, Value.ref 184, Value.int 32 0, Value.int 0 0, Value.ref 196, Value.int 34 0, Value.int 0 0, Value.ref 208, Value.int 36 0, Value.int 0 0, Value.ref 220, Value.int 38 0, Value.int 0 0, Value.ref 232, Value.int 40 0, Value.int 0 0, Value.ref 244, Value.int 42 0, Value.int 0 0, Value.ref 256, Value.int 44 0, Value.int 0 0, Value.ref 268, Value.int 46 0, Value.int 0 0, Value.ref 280, Value.int 48 0, Value.int 0 0, Value.ref 292, Value.int 50 0, Value.int 0 0, Value.ref 304, Value.int 52 0, Value.int 0 0, Value.ref 316, Value.int 54 0, Value.int 0 0, Value.ref 328, Value.int 56 0, Value.int 0 0, Value.ref 340, Value.int 58 0, Value.int 0 0, Value.ref 352, Value.int 60 0, Value.int 0 0, Value.ref 364, Value.int 62 0, Value.int 0 0, Value.ref 376, Value.int 66 0, Value.int 0 0, Value.ref 395, Value.int 68 0, Value.int 0 0, Value.ref 407, Value.int 70 0, Value.int 0 0, Value.ref 419, Value.int 72 0, Value.int 0 0, Value.ref 431, Value.int 74 0, Value.int 0 0, Value.ref 443, Value.int 76 0, Value.int 0 0, Value.ref 455, Value.int 78 0, Value.int 0 0, Value.ref 467, Value.int 80 0, Value.int 0 0, Value.ref 479, Value.int 82 0, Value.int 0 0, Value.ref 491, Value.int 84 0, Value.int 0 0, Value.ref 503, Value.int 86 0, Value.int 0 0, Value.ref 515, Value.int 88 0, Value.int 0 0, Value.ref 527, Value.int 90 0, Value.int 0 0, Value.ref 539, Value.int 92 0, Value.int 0 0, Value.ref 551, Value.int 94 0, Value.int 0 0, Value.ref 563, Value.int 96 0, Value.int 0 0, Value.ref 575, Value.int 98 0, Value.int 0 0, Value.ref 587, Value.int 100 0, Value.int 0 0, Value.ref 599, Value.int 102 0, Value.int 0 0, Value.ref 611, Value.int 106 0, Value.int 0 0, Value.ref 630, Value.int 108 0, Value.int 0 0, Value.ref 642, Value.int 110 0, Value.int 0 0, Value.ref 654, Value.int 112 0, Value.int 0 0, Value.ref 666, Value.int 114 0, Value.int 0 0, Value.ref 678, Value.int 116 0, Value.int 0 0, Value.ref 690] }
def subsB : List Value := [Value.ref 37, Value.ref 49, Value.ref 61, Value.ref 73, Value.ref 85, Value.ref 97, Value.ref 109, Value.ref 121, Value.ref 133, Value.ref 145, Value.ref 164, Value.ref 176, Value.ref 188, Value.ref 200, Value.ref 212, Value.ref 224, Value.ref 236, Value.ref 248, Value.ref 260, Value.ref 272, Value.ref 284, Value.ref 296, Value.ref 308, Value.ref 320, Value.ref 332, Value.ref 344, Value.ref 356, Value.ref 368, Value.ref 387, Value.ref 399, Value.ref 411, Value.ref 423, Value.ref 435, Value.ref 447, Value.ref 459, Value.ref 471, Value.ref 483, Value.ref 495, Value.ref 507, Value.ref 519, Value.ref 531, Value.ref 543, Value.ref 555, Value.ref 567, Value.ref 579, Value.ref 591, Value.ref 603, Value.ref 622, Value.ref 634, Value.ref 646, Value.ref 658, Value.ref 670, Value.ref 682, Value.ref 694]
def objsB (PP : Params) : List Obj := [boot_o_0 PP, boot_o_1 PP, boot_o_2 PP, oB3 PP, boot_o_4 PP, boot_o_5 PP, boot_o_6 PP, boot_o_7 PP, boot_o_8 PP, boot_o_9 PP, boot_o_10 PP, { cls := Value.type "tuple", data := Data.seq #[] }, oB12, { cls := Value.type "code", data := Data.fields #[Value.str (Str.ofString "<module>") 182, Value.str (Str.ofString "<module>") 183, Value.str (Str.ofString "/claim/cut.py") 184, Value.int 1 0, Value.int 0 0, Value.int 0 0, Value.int 0 0, Value.int 0 0, Value.ref 11, Value.bool false, Value.int 181 0, Value.ref 12, Value.none, Value.none, Value.none, Value.none, Value.int 185 0, Value.int 1 0, Value.str (Str.ofString "/claim/cut.py") 186] }, { cls := Value.type "frame", slots := #[some (Value.ref 13), some (Value.ref 3), some (Value.ref 3), none, some (Value.str (Str.ofString "__main__") 164), none, some (Value.ref 0)] }] ++ (lit0 PP subsB ++ (cls PP (Str.ofString "Asked") 28 207 4 ++ (cls PP (Str.ofString "BadAt") 40 223 6 ++ (cls PP (Str.ofString "BadAtlas") 52 239 8 ++ (cls PP (Str.ofString "BadClaim") 64 255 10 ++ (cls PP (Str.ofString "BadColumns") 76 271 12 ++ (cls PP (Str.ofString "BadCosts") 88 287 14 ++ (cls PP (Str.ofString "BadCount") 100 303 16 ++ (cls PP (Str.ofString "BadCounts") 112 319 18 ++ (cls PP (Str.ofString "BadDeed") 124 335 20 ++ (cls PP (Str.ofString "BadDeeds") 136 351 22 ++ (lit1 PP ++ (cls PP (Str.ofString "BadEnds") 167 392 28 ++ (cls PP (Str.ofString "BadErrand") 179 408 30 ++ (cls PP (Str.ofString "BadExtra") 191 424 32 ++ (cls PP (Str.ofString "BadFact") 203 440 34 ++ (cls PP (Str.ofString "BadFacts") 215 456 36 ++ (cls PP (Str.ofString "BadFlow") 227 472 38 ++ (cls PP (Str.ofString "BadGoal") 239 488 40 ++ (cls PP (Str.ofString "BadHigh") 251 504 42 ++ (cls PP (Str.ofString "BadIndex") 263 520 44 ++ (cls PP (Str.ofString "BadIndexes") 275 536 46 ++ (cls PP (Str.ofString "BadKind") 287 552 48 ++ (cls PP (Str.ofString "BadLine") 299 568 50 ++ (cls PP (Str.ofString "BadLog") 311 584 52 ++ (cls PP (Str.ofString "BadLot") 323 600 54 ++ (cls PP (Str.ofString "BadLow") 335 616 56 ++ (cls PP (Str.ofString "BadMix") 347 632 58 ++ (cls PP (Str.ofString "BadNet") 359 648 60 ++ (lit2 PP ++ (cls PP (Str.ofString "BadPair") 390 689 66 ++ (cls PP (Str.ofString "BadPairs") 402 705 68 ++ (cls PP (Str.ofString "BadParty") 414 721 70 ++ (cls PP (Str.ofString "BadPath") 426 737 72 ++ (cls PP (Str.ofString "BadPlace") 438 753 74 ++ (cls PP (Str.ofString "BadPlaces") 450 769 76 ++ (cls PP (Str.ofString "BadRatio") 462 785 78 ++ (cls PP (Str.ofString "BadRose") 474 801 80 ++ (cls PP (Str.ofString "BadRoutes") 486 817 82 ++ (cls PP (Str.ofString "BadRow") 498 833 84 ++ (cls PP (Str.ofString "BadRows") 510 849 86 ++ (cls PP (Str.ofString "BadScale") 522 865 88 ++ (cls PP (Str.ofString "BadSize") 534 881 90 ++ (cls PP (Str.ofString "BadSpot") 546 897 92 ++ (cls PP (Str.ofString "BadStep") 558 913 94 ++ (cls PP (Str.ofString "BadSteps") 570 929 96 ++ (cls PP (Str.ofString "BadTable") 582 945 98 ++ (cls PP (Str.ofString "BadTables") 594 961 100 ++ (lit3 PP ++ (cls PP (Str.ofString "BadTie") 625 1002 106 ++ (cls PP (Str.ofString "BadTies") 637 1018 108 ++ (cls PP (Str.ofString "BadTime") 649 1034 110 ++ (cls PP (Str.ofString "BadTimes") 661 1050 112 ++ (cls PP (Str.ofString "BadTrip") 673 1066 114 ++ (cls PP (Str.ofString "BadTrips") 685 1082 116)))))))))))))))))))))))))))))))))))))))))))))))))))))))
def oC3 (PP : Params) : Obj := { cls := Value.type "dict", data := Data.dict #[{ hash := PyData.keyHash PP (Str.ofString "__name__"), key := Value.str (Str.ofString "__name__") 165, val := Value.str (Str.ofString "law_pacerose_k00_errors_of_all_parts") 1518 }, { hash := PyData.keyHash PP (Str.ofString "__doc__"), key := Value.str (Str.ofString "__doc__") 166, val := Value.none }, { hash := PyData.keyHash PP (Str.ofString "__package__"), key := Value.str (Str.ofString "__package__") 167, val := Value.none }, { hash := PyData.keyHash PP (Str.ofString "__loader__"), key := Value.str (Str.ofString "__loader__") 168, val := Value.builtin "__main__.__loader__#opaque" }, { hash := PyData.keyHash PP (Str.ofString "__spec__"), key := Value.str (Str.ofString "__spec__") 169, val := Value.none }, { hash := PyData.keyHash PP (Str.ofString "__annotations__"), key := Value.str (Str.ofString "__annotations__") 170, val := Value.ref 6 }, { hash := PyData.keyHash PP (Str.ofString "__builtins__"), key := Value.str (Str.ofString "__builtins__") 171, val := Value.ref 4 }, { hash := PyData.keyHash PP (Str.ofString "__file__"), key := Value.str (Str.ofString "__file__") 173, val := Value.str (Str.ofString "/claim/cut.py") 172 }, { hash := PyData.keyHash PP (Str.ofString "__cached__"), key := Value.str (Str.ofString "__cached__") 174, val := Value.none }, { hash := PyData.keyHash PP (Str.ofString "RoseError"), key := Value.str (Str.ofString "RoseError") 206, val := Value.ref 24 }, { hash := PyData.keyHash PP (Str.ofString "Asked"), key := Value.str (Str.ofString "Asked") 222, val := Value.ref 37 }, { hash := PyData.keyHash PP (Str.ofString "BadAt"), key := Value.str (Str.ofString "BadAt") 238, val := Value.ref 49 }, { hash := PyData.keyHash PP (Str.ofString "BadAtlas"), key := Value.str (Str.ofString "BadAtlas") 254, val := Value.ref 61 }, { hash := PyData.keyHash PP (Str.ofString "BadClaim"), key := Value.str (Str.ofString "BadClaim") 270, val := Value.ref 73 }, { hash := PyData.keyHash PP (Str.ofString "BadColumns"), key := Value.str (Str.ofString "BadColumns") 286, val := Value.ref 85 }, { hash := PyData.keyHash PP (Str.ofString "BadCosts"), key := Value.str (Str.ofString "BadCosts") 302, val := Value.ref 97 }, { hash := PyData.keyHash PP (Str.ofString "BadCount"), key := Value.str (Str.ofString "BadCount") 318, val := Value.ref 109 }, { hash := PyData.keyHash PP (Str.ofString "BadCounts"), key := Value.str (Str.ofString "BadCounts") 334, val := Value.ref 121 }, { hash := PyData.keyHash PP (Str.ofString "BadDeed"), key := Value.str (Str.ofString "BadDeed") 350, val := Value.ref 133 }, { hash := PyData.keyHash PP (Str.ofString "BadDeeds"), key := Value.str (Str.ofString "BadDeeds") 366, val := Value.ref 145 }, { hash := PyData.keyHash PP (Str.ofString "BadDrift"), key := Value.str (Str.ofString "BadDrift") 391, val := Value.ref 164 }, { hash := PyData.keyHash PP (Str.ofString "BadEnds"), key := Value.str (Str.ofString "BadEnds") 407, val := Value.ref 176 }, { hash := PyData.keyHash PP (Str.ofString "BadErrand"), key := Value.str (Str.ofString "BadErrand") 423, val := Value.ref 188 }, { hash := PyData.keyHash PP (Str.ofString "BadExtra"), key := Value.str (Str.ofString "BadExtra") 439, val := Value.ref 200 }, { hash := PyData.keyHash PP (Str.ofString "BadFact"), key := Value.str (Str.ofString "BadFact") 455, val := Value.ref 212 }, { hash := PyData.keyHash PP (Str.ofString "BadFacts"), key := Value.str (Str.ofString "BadFacts") 471, val := Value.ref 224 }, { hash := PyData.keyHash PP (Str.ofString "BadFlow"), key := Value.str (Str.ofString "BadFlow") 487, val := Value.ref 236 }, { hash := PyData.keyHash PP (Str.ofString "BadGoal"), key := Value.str (Str.ofString "BadGoal") 503, val := Value.ref 248 }, { hash := PyData.keyHash PP (Str.ofString "BadHigh"), key := Value.str (Str.ofString "BadHigh") 519, val := Value.ref 260 }, { hash := PyData.keyHash PP (Str.ofString "BadIndex"), key := Value.str (Str.ofString "BadIndex") 535, val := Value.ref 272 }, { hash := PyData.keyHash PP (Str.ofString "BadIndexes"), key := Value.str (Str.ofString "BadIndexes") 551, val := Value.ref 284 }, { hash := PyData.keyHash PP (Str.ofString "BadKind"), key := Value.str (Str.ofString "BadKind") 567, val := Value.ref 296 }, { hash := PyData.keyHash PP (Str.ofString "BadLine"), key := Value.str (Str.ofString "BadLine") 583, val := Value.ref 308 }, { hash := PyData.keyHash PP (Str.ofString "BadLog"), key := Value.str (Str.ofString "BadLog") 599, val := Value.ref 320 }, { hash := PyData.keyHash PP (Str.ofString "BadLot"), key := Value.str (Str.ofString "BadLot") 615, val := Value.ref 332 }, { hash := PyData.keyHash PP (Str.ofString "BadLow"), key := Value.str (Str.ofString "BadLow") 631, val := Value.ref 344 }, { hash := PyData.keyHash PP (Str.ofString "BadMix"), key := Value.str (Str.ofString "BadMix") 647, val := Value.ref 356 }, { hash := PyData.keyHash PP (Str.ofString "BadNet"), key := Value.str (Str.ofString "BadNet") 663, val := Value.ref 368 }, { hash := PyData.keyHash PP (Str.ofString "BadNumber"), key := Value.str (Str.ofString "BadNumber") 688, val := Value.ref 387 }, { hash := PyData.keyHash PP (Str.ofString "BadPair"), key := Value.str (Str.ofString "BadPair") 704, val := Value.ref 399 }, { hash := PyData.keyHash PP (Str.ofString "BadPairs"), key := Value.str (Str.ofString "BadPairs") 720, val := Value.ref 411 }, { hash := PyData.keyHash PP (Str.ofString "BadParty"), key := Value.str (Str.ofString "BadParty") 736, val := Value.ref 423 }, { hash := PyData.keyHash PP (Str.ofString "BadPath"), key := Value.str (Str.ofString "BadPath") 752, val := Value.ref 435 }, { hash := PyData.keyHash PP (Str.ofString "BadPlace"), key := Value.str (Str.ofString "BadPlace") 768, val := Value.ref 447 }, { hash := PyData.keyHash PP (Str.ofString "BadPlaces"), key := Value.str (Str.ofString "BadPlaces") 784, val := Value.ref 459 }, { hash := PyData.keyHash PP (Str.ofString "BadRatio"), key := Value.str (Str.ofString "BadRatio") 800, val := Value.ref 471 }, { hash := PyData.keyHash PP (Str.ofString "BadRose"), key := Value.str (Str.ofString "BadRose") 816, val := Value.ref 483 }, { hash := PyData.keyHash PP (Str.ofString "BadRoutes"), key := Value.str (Str.ofString "BadRoutes") 832, val := Value.ref 495 }, { hash := PyData.keyHash PP (Str.ofString "BadRow"), key := Value.str (Str.ofString "BadRow") 848, val := Value.ref 507 }, { hash := PyData.keyHash PP (Str.ofString "BadRows"), key := Value.str (Str.ofString "BadRows") 864, val := Value.ref 519 }, { hash := PyData.keyHash PP (Str.ofString "BadScale"), key := Value.str (Str.ofString "BadScale") 880, val := Value.ref 531 }, { hash := PyData.keyHash PP (Str.ofString "BadSize"), key := Value.str (Str.ofString "BadSize") 896, val := Value.ref 543 }, { hash := PyData.keyHash PP (Str.ofString "BadSpot"), key := Value.str (Str.ofString "BadSpot") 912, val := Value.ref 555 }, { hash := PyData.keyHash PP (Str.ofString "BadStep"), key := Value.str (Str.ofString "BadStep") 928, val := Value.ref 567 }, { hash := PyData.keyHash PP (Str.ofString "BadSteps"), key := Value.str (Str.ofString "BadSteps") 944, val := Value.ref 579 }, { hash := PyData.keyHash PP (Str.ofString "BadTable"), key := Value.str (Str.ofString "BadTable") 960, val := Value.ref 591 }, { hash := PyData.keyHash PP (Str.ofString "BadTables"), key := Value.str (Str.ofString "BadTables") 976, val := Value.ref 603 }, { hash := PyData.keyHash PP (Str.ofString "BadText"), key := Value.str (Str.ofString "BadText") 1001, val := Value.ref 622 }, { hash := PyData.keyHash PP (Str.ofString "BadTie"), key := Value.str (Str.ofString "BadTie") 1017, val := Value.ref 634 }, { hash := PyData.keyHash PP (Str.ofString "BadTies"), key := Value.str (Str.ofString "BadTies") 1033, val := Value.ref 646 }, { hash := PyData.keyHash PP (Str.ofString "BadTime"), key := Value.str (Str.ofString "BadTime") 1049, val := Value.ref 658 }, { hash := PyData.keyHash PP (Str.ofString "BadTimes"), key := Value.str (Str.ofString "BadTimes") 1065, val := Value.ref 670 }, { hash := PyData.keyHash PP (Str.ofString "BadTrip"), key := Value.str (Str.ofString "BadTrip") 1081, val := Value.ref 682 }, { hash := PyData.keyHash PP (Str.ofString "BadTrips"), key := Value.str (Str.ofString "BadTrips") 1097, val := Value.ref 694 }, { hash := PyData.keyHash PP (Str.ofString "BadWalk"), key := Value.str (Str.ofString "BadWalk") 1113, val := Value.ref 706 }, { hash := PyData.keyHash PP (Str.ofString "BadWay"), key := Value.str (Str.ofString "BadWay") 1129, val := Value.ref 718 }, { hash := PyData.keyHash PP (Str.ofString "BadWeights"), key := Value.str (Str.ofString "BadWeights") 1145, val := Value.ref 730 }, { hash := PyData.keyHash PP (Str.ofString "BadWind"), key := Value.str (Str.ofString "BadWind") 1161, val := Value.ref 742 }, { hash := PyData.keyHash PP (Str.ofString "BadWord"), key := Value.str (Str.ofString "BadWord") 1177, val := Value.ref 754 }, { hash := PyData.keyHash PP (Str.ofString "Endless"), key := Value.str (Str.ofString "Endless") 1193, val := Value.ref 766 }, { hash := PyData.keyHash PP (Str.ofString "Failed"), key := Value.str (Str.ofString "Failed") 1218, val := Value.ref 785 }, { hash := PyData.keyHash PP (Str.ofString "Named"), key := Value.str (Str.ofString "Named") 1234, val := Value.ref 797 }, { hash := PyData.keyHash PP (Str.ofString "NoName"), key := Value.str (Str.ofString "NoName") 1250, val := Value.ref 809 }, { hash := PyData.keyHash PP (Str.ofString "NoPath"), key := Value.str (Str.ofString "NoPath") 1266, val := Value.ref 821 }, { hash := PyData.keyHash PP (Str.ofString "NoQuestion"), key := Value.str (Str.ofString "NoQuestion") 1282, val := Value.ref 833 }, { hash := PyData.keyHash PP (Str.ofString "NotClosed"), key := Value.str (Str.ofString "NotClosed") 1307, val := Value.ref 852 }, { hash := PyData.keyHash PP (Str.ofString "NotFlat"), key := Value.str (Str.ofString "NotFlat") 1323, val := Value.ref 864 }, { hash := PyData.keyHash PP (Str.ofString "NotMirrored"), key := Value.str (Str.ofString "NotMirrored") 1339, val := Value.ref 876 }, { hash := PyData.keyHash PP (Str.ofString "NothingDone"), key := Value.str (Str.ofString "NothingDone") 1355, val := Value.ref 888 }, { hash := PyData.keyHash PP (Str.ofString "NothingUndone"), key := Value.str (Str.ofString "NothingUndone") 1371, val := Value.ref 900 }, { hash := PyData.keyHash PP (Str.ofString "OtherPlaces"), key := Value.str (Str.ofString "OtherPlaces") 1387, val := Value.ref 912 }, { hash := PyData.keyHash PP (Str.ofString "OtherSize"), key := Value.str (Str.ofString "OtherSize") 1403, val := Value.ref 924 }, { hash := PyData.keyHash PP (Str.ofString "Quarrel"), key := Value.str (Str.ofString "Quarrel") 1419, val := Value.ref 936 }, { hash := PyData.keyHash PP (Str.ofString "Quarrels"), key := Value.str (Str.ofString "Quarrels") 1444, val := Value.ref 955 }, { hash := PyData.keyHash PP (Str.ofString "TooMany"), key := Value.str (Str.ofString "TooMany") 1469, val := Value.ref 974 }, { hash := PyData.keyHash PP (Str.ofString "Unkept"), key := Value.str (Str.ofString "Unkept") 1485, val := Value.ref 986 }, { hash := PyData.keyHash PP (Str.ofString "Used"), key := Value.str (Str.ofString "Used") 1501, val := Value.ref 998 }, { hash := PyData.keyHash PP (Str.ofString "Windless"), key := Value.str (Str.ofString "Windless") 1517, val := Value.ref 1010 }] 88 }
def oC12 : Obj := { cls := Value.none, data := Data.fields #[Value.int 2 0, Value.int 0 0, Value.ref 20, Value.int 4 0, Value.int 0 0, Value.ref 33, Value.int 6 0, Value.int 0 0, Value.ref 45, Value.int 8 0, Value.int 0 0, Value.ref 57, Value.int 10 0, Value.int 0 0, Value.ref 69, Value.int 12 0, Value.int 0 0, Value.ref 81, Value.int 14 0, Value.int 0 0, Value.ref 93, Value.int 16 0, Value.int 0 0, Value.ref 105, Value.int 18 0, Value.int 0 0, Value.ref 117, Value.int 20 0, Value.int 0 0, Value.ref 129, Value.int 22 0, Value.int 0 0, Value.ref 141, Value.int 24 0, Value.int 0 0, Value.ref 153, Value.int 28 0, Value.int 0 0, Value.ref 172, Value.int 30 0, Value.int 0 0, Value.ref 184, Value.int 32 0, Value.int 0 0, Value.ref 196, Value.int 34 0, Value.int 0 0, Value.ref 208, Value.int 36 0, Value.int 0 0, Value.ref 220, Value.int 38 0, Value.int 0 0, Value.ref 232, Value.int 40 0, Value.int 0 0, Value.ref 244, Value.int 42 0, Value.int 0 0, Value.ref 256, Value.int 44 0, Value.int 0 0, Value.ref 268, Value.int 46 0, Value.int 0 0, Value.ref 280, Value.int 48 0, Value.int 0 0, Value.ref 292, Value.int 50 0, Value.int 0 0, Value.ref 304, Value.int 52 0, Value.int 0 0, Value.ref 316, Value.int 54 0, Value.int 0 0, Value.ref 328, Value.int 56 0, Value.int 0 0, Value.ref 340, Value.int 58 0, Value.int 0 0, Value.ref 352, Value.int 60 0, Value.int 0 0, Value.ref 364, Value.int 62 0, Value.int 0 0, Value.ref 376, Value.int 66 0, Value.int 0 0, Value.ref 395, Value.int 68 0, Value.int 0 0, Value.ref 407, Value.int 70 0, Value.int 0 0, Value.ref 419, Value.int 72 0, Value.int 0 0, Value.ref 431, Value.int 74 0, Value.int 0 0, Value.ref 443, Value.int 76 0, Value.int 0 0, Value.ref 455, Value.int 78 0, Value.int 0 0, Value.ref 467, Value.int 80 0, Value.int 0 0, Value.ref 479, Value.int 82 0, Value.int 0 0, Value.ref 491, Value.int 84 0, Value.int 0 0, Value.ref 503, Value.int 86 0, Value.int 0 0, Value.ref 515, Value.int 88 0, Value.int 0 0, Value.ref 527, Value.int 90 0, Value.int 0 0, Value.ref 539, Value.int 92 0, Value.int 0 0, Value.ref 551, Value.int 94 0, Value.int 0 0, Value.ref 563, Value.int 96 0, Value.int 0 0, Value.ref 575, Value.int 98 0, Value.int 0 0, Value.ref 587, Value.int 100 0, Value.int 0 0, Value.ref 599, Value.int 102 0, Value.int 0 0, Value.ref 611, Value.int 106 0, Value.int 0 0, Value.ref 630, Value.int 108 0, Value.int 0 0, Value.ref 642, Value.int 110 0, Value.int 0 0, Value.ref 654, Value.int 112 0, Value.int 0 0, Value.ref 666, Value.int 114 0, Value.int 0 0, Value.ref 678, Value.int 116 0, Value.int 0 0, Value.ref 690, Value.int 118 0, Value.int 0 0, Value.ref 702, Value.int 120 0, Value.int 0 0, Value.ref 714, Value.int 122 0, Value.int 0 0, Value.ref 726, Value.int 124 0, Value.int 0 0, Value.ref 738, Value.int 126 0, Value.int 0 0, Value.ref 750, Value.int 128 0, Value.int 0 0, Value.ref 762, Value.int 130 0, Value.int 0 0, Value.ref 774, Value.int 134 0, Value.int 0 0, Value.ref 793, Value.int 136 0, Value.int 0 0, Value.ref 805, Value.int 138 0, Value.int 0 0, Value.ref 817, Value.int 140 0, Value.int 0 0, Value.ref 829, Value.int 142 0, Value.int 0 0, Value.ref 841, Value.int 146 0, Value.int 0 0, Value.ref 860, Value.int 148 0, Value.int 0 0, Value.ref 872, Value.int 150 0, Value.int 0 0, Value.ref 884, Value.int 152 0, Value.int 0 0, Value.ref 896, Value.int 154 0, Value.int 0 0, Value.ref 908, Value.int 156 0, Value.int 0 0, Value.ref 920, Value.int 158 0, Value.int 0 0, Value.ref 932, Value.int 160 0, Value.int 0 0, Value.ref 944, Value.int 164 0, Value.int 0 0, Value.ref 963, Value.int 168 0, Value.int 0 0, Value.ref 982, Value.int 170 0, Value.int 0 0, Value.ref 994, Value.int 172 0, Value.int 0 0, Value.ref 1006] }
def subsC : List Value := [Value.ref 37, Value.ref 49, Value.ref 61, Value.ref 73, Value.ref 85, Value.ref 97, Value.ref 109, Value.ref 121, Value.ref 133, Value.ref 145, Value.ref 164, Value.ref 176, Value.ref 188, Value.ref 200, Value.ref 212, Value.ref 224, Value.ref 236, Value.ref 248, Value.ref 260, Value.ref 272, Value.ref 284, Value.ref 296, Value.ref 308, Value.ref 320, Value.ref 332, Value.ref 344, Value.ref 356, Value.ref 368, Value.ref 387, Value.ref 399, Value.ref 411, Value.ref 423, Value.ref 435, Value.ref 447, Value.ref 459, Value.ref 471, Value.ref 483, Value.ref 495, Value.ref 507, Value.ref 519, Value.ref 531, Value.ref 543, Value.ref 555, Value.ref 567, Value.ref 579, Value.ref 591, Value.ref 603, Value.ref 622, Value.ref 634, Value.ref 646, Value.ref 658, Value.ref 670, Value.ref 682, Value.ref 694, Value.ref 706, Value.ref 718, Value.ref 730, Value.ref 742, Value.ref 754, Value.ref 766, Value.ref 785, Value.ref 797, Value.ref 809, Value.ref 821, Value.ref 833, Value.ref 852, Value.ref 864, Value.ref 876, Value.ref 888, Value.ref 900, Value.ref 912, Value.ref 924, Value.ref 936, Value.ref 955, Value.ref 974, Value.ref 986, Value.ref 998, Value.ref 1010]
def objsC (PP : Params) : List Obj := [boot_o_0 PP, boot_o_1 PP, boot_o_2 PP, oC3 PP, boot_o_4 PP, boot_o_5 PP, boot_o_6 PP, boot_o_7 PP, boot_o_8 PP, boot_o_9 PP, boot_o_10 PP, { cls := Value.type "tuple", data := Data.seq #[] }, oC12, { cls := Value.type "code", data := Data.fields #[Value.str (Str.ofString "<module>") 182, Value.str (Str.ofString "<module>") 183, Value.str (Str.ofString "/claim/cut.py") 184, Value.int 1 0, Value.int 0 0, Value.int 0 0, Value.int 0 0, Value.int 0 0, Value.ref 11, Value.bool false, Value.int 181 0, Value.ref 12, Value.none, Value.none, Value.none, Value.none, Value.int 185 0, Value.int 1 0, Value.str (Str.ofString "/claim/cut.py") 186] }, { cls := Value.type "frame", slots := #[some (Value.ref 13), some (Value.ref 3), some (Value.ref 3), none, some (Value.str (Str.ofString "__main__") 164), none, some (Value.ref 0)] }] ++ (lit0 PP subsC ++ (cls PP (Str.ofString "Asked") 28 207 4 ++ (cls PP (Str.ofString "BadAt") 40 223 6 ++ (cls PP (Str.ofString "BadAtlas") 52 239 8 ++ (cls PP (Str.ofString "BadClaim") 64 255 10 ++ (cls PP (Str.ofString "BadColumns") 76 271 12 ++ (cls PP (Str.ofString "BadCosts") 88 287 14 ++ (cls PP (Str.ofString "BadCount") 100 303 16 ++ (cls PP (Str.ofString "BadCounts") 112 319 18 ++ (cls PP (Str.ofString "BadDeed") 124 335 20 ++ (cls PP (Str.ofString "BadDeeds") 136 351 22 ++ (lit1 PP ++ (cls PP (Str.ofString "BadEnds") 167 392 28 ++ (cls PP (Str.ofString "BadErrand") 179 408 30 ++ (cls PP (Str.ofString "BadExtra") 191 424 32 ++ (cls PP (Str.ofString "BadFact") 203 440 34 ++ (cls PP (Str.ofString "BadFacts") 215 456 36 ++ (cls PP (Str.ofString "BadFlow") 227 472 38 ++ (cls PP (Str.ofString "BadGoal") 239 488 40 ++ (cls PP (Str.ofString "BadHigh") 251 504 42 ++ (cls PP (Str.ofString "BadIndex") 263 520 44 ++ (cls PP (Str.ofString "BadIndexes") 275 536 46 ++ (cls PP (Str.ofString "BadKind") 287 552 48 ++ (cls PP (Str.ofString "BadLine") 299 568 50 ++ (cls PP (Str.ofString "BadLog") 311 584 52 ++ (cls PP (Str.ofString "BadLot") 323 600 54 ++ (cls PP (Str.ofString "BadLow") 335 616 56 ++ (cls PP (Str.ofString "BadMix") 347 632 58 ++ (cls PP (Str.ofString "BadNet") 359 648 60 ++ (lit2 PP ++ (cls PP (Str.ofString "BadPair") 390 689 66 ++ (cls PP (Str.ofString "BadPairs") 402 705 68 ++ (cls PP (Str.ofString "BadParty") 414 721 70 ++ (cls PP (Str.ofString "BadPath") 426 737 72 ++ (cls PP (Str.ofString "BadPlace") 438 753 74 ++ (cls PP (Str.ofString "BadPlaces") 450 769 76 ++ (cls PP (Str.ofString "BadRatio") 462 785 78 ++ (cls PP (Str.ofString "BadRose") 474 801 80 ++ (cls PP (Str.ofString "BadRoutes") 486 817 82 ++ (cls PP (Str.ofString "BadRow") 498 833 84 ++ (cls PP (Str.ofString "BadRows") 510 849 86 ++ (cls PP (Str.ofString "BadScale") 522 865 88 ++ (cls PP (Str.ofString "BadSize") 534 881 90 ++ (cls PP (Str.ofString "BadSpot") 546 897 92 ++ (cls PP (Str.ofString "BadStep") 558 913 94 ++ (cls PP (Str.ofString "BadSteps") 570 929 96 ++ (cls PP (Str.ofString "BadTable") 582 945 98 ++ (cls PP (Str.ofString "BadTables") 594 961 100 ++ (lit3 PP ++ (cls PP (Str.ofString "BadTie") 625 1002 106 ++ (cls PP (Str.ofString "BadTies") 637 1018 108 ++ (cls PP (Str.ofString "BadTime") 649 1034 110 ++ (cls PP (Str.ofString "BadTimes") 661 1050 112 ++ (cls PP (Str.ofString "BadTrip") 673 1066 114 ++ (cls PP (Str.ofString "BadTrips") 685 1082 116 ++ (cls PP (Str.ofString "BadWalk") 697 1098 118 ++ (cls PP (Str.ofString "BadWay") 709 1114 120 ++ (cls PP (Str.ofString "BadWeights") 721 1130 122 ++ (cls PP (Str.ofString "BadWind") 733 1146 124 ++ (cls PP (Str.ofString "BadWord") 745 1162 126 ++ (cls PP (Str.ofString "Endless") 757 1178 128 ++ (lit4 PP ++ (cls PP (Str.ofString "Named") 788 1219 134 ++ (cls PP (Str.ofString "NoName") 800 1235 136 ++ (cls PP (Str.ofString "NoPath") 812 1251 138 ++ (cls PP (Str.ofString "NoQuestion") 824 1267 140 ++ (lit5 PP ++ (cls PP (Str.ofString "NotFlat") 855 1308 146 ++ (cls PP (Str.ofString "NotMirrored") 867 1324 148 ++ (cls PP (Str.ofString "NothingDone") 879 1340 150 ++ (cls PP (Str.ofString "NothingUndone") 891 1356 152 ++ (cls PP (Str.ofString "OtherPlaces") 903 1372 154 ++ (cls PP (Str.ofString "OtherSize") 915 1388 156 ++ (cls PP (Str.ofString "Quarrel") 927 1404 158 ++ (lit6 PP ++ (lit7 PP ++ (cls PP (Str.ofString "Unkept") 977 1470 168 ++ (cls PP (Str.ofString "Used") 989 1486 170 ++ (cls PP (Str.ofString "Windless") 1001 1502 172)))))))))))))))))))))))))))))))))))))))))))))))))))))))))))))))))))))))))))))))
def oF3 (PP : Params) : Obj := { cls := Value.type "dict", data := Data.dict #[{ hash := PyData.keyHash PP (Str.ofString "__name__"), key := Value.str (Str.ofString "__name__") 165, val := Value.str (Str.ofString "law_pacerose_k00_errors_of_all_parts") 1518 }, { hash := PyData.keyHash PP (Str.ofString "__doc__"), key := Value.str (Str.ofString "__doc__") 166, val := Value.none }, { hash := PyData.keyHash PP (Str.ofString "__package__"), key := Value.str (Str.ofString "__package__") 167, val := Value.none }, { hash := PyData.keyHash PP (Str.ofString "__loader__"), key := Value.str (Str.ofString "__loader__") 168, val := Value.builtin "__main__.__loader__#opaque" }, { hash := PyData.keyHash PP (Str.ofString "__spec__"), key := Value.str (Str.ofString "__spec__") 169, val := Value.none }, { hash := PyData.keyHash PP (Str.ofString "__annotations__"), key := Value.str (Str.ofString "__annotations__") 170, val := Value.ref 6 }, { hash := PyData.keyHash PP (Str.ofString "__builtins__"), key := Value.str (Str.ofString "__builtins__") 171, val := Value.ref 4 }, { hash := PyData.keyHash PP (Str.ofString "__file__"), key := Value.str (Str.ofString "__file__") 173, val := Value.str (Str.ofString "/claim/cut.py") 172 }, { hash := PyData.keyHash PP (Str.ofString "__cached__"), key := Value.str (Str.ofString "__cached__") 174, val := Value.none }, { hash := PyData.keyHash PP (Str.ofString "RoseError"), key := Value.str (Str.ofString "RoseError") 206, val := Value.ref 24 }, { hash := PyData.keyHash PP (Str.ofString "Asked"), key := Value.str (Str.ofString "Asked") 222, val := Value.ref 37 }, { hash := PyData.keyHash PP (Str.ofString "BadAt"), key := Value.str (Str.ofString "BadAt") 238, val := Value.ref 49 }, { hash := PyData.keyHash PP (Str.ofString "BadAtlas"), key := Value.str (Str.ofString "BadAtlas") 254, val := Value.ref 61 }, { hash := PyData.keyHash PP (Str.ofString "BadClaim"), key := Value.str (Str.ofString "BadClaim") 270, val := Value.ref 73 }, { hash := PyData.keyHash PP (Str.ofString "BadColumns"), key := Value.str (Str.ofString "BadColumns") 286, val := Value.ref 85 }, { hash := PyData.keyHash PP (Str.ofString "BadCosts"), key := Value.str (Str.ofString "BadCosts") 302, val := Value.ref 97 }, { hash := PyData.keyHash PP (Str.ofString "BadCount"), key := Value.str (Str.ofString "BadCount") 318, val := Value.ref 109 }, { hash := PyData.keyHash PP (Str.ofString "BadCounts"), key := Value.str (Str.ofString "BadCounts") 334, val := Value.ref 121 }, { hash := PyData.keyHash PP (Str.ofString "BadDeed"), key := Value.str (Str.ofString "BadDeed") 350, val := Value.ref 133 }, { hash := PyData.keyHash PP (Str.ofString "BadDeeds"), key := Value.str (Str.ofString "BadDeeds") 366, val := Value.ref 145 }, { hash := PyData.keyHash PP (Str.ofString "BadDrift"), key := Value.str (Str.ofString "BadDrift") 391, val := Value.ref 164 }, { hash := PyData.keyHash PP (Str.ofString "BadEnds"), key := Value.str (Str.ofString "BadEnds") 407, val := Value.ref 176 }, { hash := PyData.keyHash PP (Str.ofString "BadErrand"), key := Value.str (Str.ofString "BadErrand") 423, val := Value.ref 188 }, { hash := PyData.keyHash PP (Str.ofString "BadExtra"), key := Value.str (Str.ofString "BadExtra") 439, val := Value.ref 200 }, { hash := PyData.keyHash PP (Str.ofString "BadFact"), key := Value.str (Str.ofString "BadFact") 455, val := Value.ref 212 }, { hash := PyData.keyHash PP (Str.ofString "BadFacts"), key := Value.str (Str.ofString "BadFacts") 471, val := Value.ref 224 }, { hash := PyData.keyHash PP (Str.ofString "BadFlow"), key := Value.str (Str.ofString "BadFlow") 487, val := Value.ref 236 }, { hash := PyData.keyHash PP (Str.ofString "BadGoal"), key := Value.str (Str.ofString "BadGoal") 503, val := Value.ref 248 }, { hash := PyData.keyHash PP (Str.ofString "BadHigh"), key := Value.str (Str.ofString "BadHigh") 519, val := Value.ref 260 }, { hash := PyData.keyHash PP (Str.ofString "BadIndex"), key := Value.str (Str.ofString "BadIndex") 535, val := Value.ref 272 }, { hash := PyData.keyHash PP (Str.ofString "BadIndexes"), key := Value.str (Str.ofString "BadIndexes") 551, val := Value.ref 284 }, { hash := PyData.keyHash PP (Str.ofString "BadKind"), key := Value.str (Str.ofString "BadKind") 567, val := Value.ref 296 }, { hash := PyData.keyHash PP (Str.ofString "BadLine"), key := Value.str (Str.ofString "BadLine") 583, val := Value.ref 308 }, { hash := PyData.keyHash PP (Str.ofString "BadLog"), key := Value.str (Str.ofString "BadLog") 599, val := Value.ref 320 }, { hash := PyData.keyHash PP (Str.ofString "BadLot"), key := Value.str (Str.ofString "BadLot") 615, val := Value.ref 332 }, { hash := PyData.keyHash PP (Str.ofString "BadLow"), key := Value.str (Str.ofString "BadLow") 631, val := Value.ref 344 }, { hash := PyData.keyHash PP (Str.ofString "BadMix"), key := Value.str (Str.ofString "BadMix") 647, val := Value.ref 356 }, { hash := PyData.keyHash PP (Str.ofString "BadNet"), key := Value.str (Str.ofString "BadNet") 663, val := Value.ref 368 }, { hash := PyData.keyHash PP (Str.ofString "BadNumber"), key := Value.str (Str.ofString "BadNumber") 688, val := Value.ref 387 }, { hash := PyData.keyHash PP (Str.ofString "BadPair"), key := Value.str (Str.ofString "BadPair") 704, val := Value.ref 399 }, { hash := PyData.keyHash PP (Str.ofString "BadPairs"), key := Value.str (Str.ofString "BadPairs") 720, val := Value.ref 411 }, { hash := PyData.keyHash PP (Str.ofString "BadParty"), key := Value.str (Str.ofString "BadParty") 736, val := Value.ref 423 }, { hash := PyData.keyHash PP (Str.ofString "BadPath"), key := Value.str (Str.ofString "BadPath") 752, val := Value.ref 435 }, { hash := PyData.keyHash PP (Str.ofString "BadPlace"), key := Value.str (Str.ofString "BadPlace") 768, val := Value.ref 447 }, { hash := PyData.keyHash PP (Str.ofString "BadPlaces"), key := Value.str (Str.ofString "BadPlaces") 784, val := Value.ref 459 }, { hash := PyData.keyHash PP (Str.ofString "BadRatio"), key := Value.str (Str.ofString "BadRatio") 800, val := Value.ref 471 }, { hash := PyData.keyHash PP (Str.ofString "BadRose"), key := Value.str (Str.ofString "BadRose") 816, val := Value.ref 483 }, { hash := PyData.keyHash PP (Str.ofString "BadRoutes"), key := Value.str (Str.ofString "BadRoutes") 832, val := Value.ref 495 }, { hash := PyData.keyHash PP (Str.ofString "BadRow"), key := Value.str (Str.ofString "BadRow") 848, val := Value.ref 507 }, { hash := PyData.keyHash PP (Str.ofString "BadRows"), key := Value.str (Str.ofString "BadRows") 864, val := Value.ref 519 }, { hash := PyData.keyHash PP (Str.ofString "BadScale"), key := Value.str (Str.ofString "BadScale") 880, val := Value.ref 531 }, { hash := PyData.keyHash PP (Str.ofString "BadSize"), key := Value.str (Str.ofString "BadSize") 896, val := Value.ref 543 }, { hash := PyData.keyHash PP (Str.ofString "BadSpot"), key := Value.str (Str.ofString "BadSpot") 912, val := Value.ref 555 }, { hash := PyData.keyHash PP (Str.ofString "BadStep"), key := Value.str (Str.ofString "BadStep") 928, val := Value.ref 567 }, { hash := PyData.keyHash PP (Str.ofString "BadSteps"), key := Value.str (Str.ofString "BadSteps") 944, val := Value.ref 579 }, { hash := PyData.keyHash PP (Str.ofString "BadTable"), key := Value.str (Str.ofString "BadTable") 960, val := Value.ref 591 }, { hash := PyData.keyHash PP (Str.ofString "BadTables"), key := Value.str (Str.ofString "BadTables") 976, val := Value.ref 603 }, { hash := PyData.keyHash PP (Str.ofString "BadText"), key := Value.str (Str.ofString "BadText") 1001, val := Value.ref 622 }, { hash := PyData.keyHash PP (Str.ofString "BadTie"), key := Value.str (Str.ofString "BadTie") 1017, val := Value.ref 634 }, { hash := PyData.keyHash PP (Str.ofString "BadTies"), key := Value.str (Str.ofString "BadTies") 1033, val := Value.ref 646 }, { hash := PyData.keyHash PP (Str.ofString "BadTime"), key := Value.str (Str.ofString "BadTime") 1049, val := Value.ref 658 }, { hash := PyData.keyHash PP (Str.ofString "BadTimes"), key := Value.str (Str.ofString "BadTimes") 1065, val := Value.ref 670 }, { hash := PyData.keyHash PP (Str.ofString "BadTrip"), key := Value.str (Str.ofString "BadTrip") 1081, val := Value.ref 682 }, { hash := PyData.keyHash PP (Str.ofString "BadTrips"), key := Value.str (Str.ofString "BadTrips") 1097, val := Value.ref 694 }, { hash := PyData.keyHash PP (Str.ofString "BadWalk"), key := Value.str (Str.ofString "BadWalk") 1113, val := Value.ref 706 }, { hash := PyData.keyHash PP (Str.ofString "BadWay"), key := Value.str (Str.ofString "BadWay") 1129, val := Value.ref 718 }, { hash := PyData.keyHash PP (Str.ofString "BadWeights"), key := Value.str (Str.ofString "BadWeights") 1145, val := Value.ref 730 }, { hash := PyData.keyHash PP (Str.ofString "BadWind"), key := Value.str (Str.ofString "BadWind") 1161, val := Value.ref 742 }, { hash := PyData.keyHash PP (Str.ofString "BadWord"), key := Value.str (Str.ofString "BadWord") 1177, val := Value.ref 754 }, { hash := PyData.keyHash PP (Str.ofString "Endless"), key := Value.str (Str.ofString "Endless") 1193, val := Value.ref 766 }, { hash := PyData.keyHash PP (Str.ofString "Failed"), key := Value.str (Str.ofString "Failed") 1218, val := Value.ref 785 }, { hash := PyData.keyHash PP (Str.ofString "Named"), key := Value.str (Str.ofString "Named") 1234, val := Value.ref 797 }, { hash := PyData.keyHash PP (Str.ofString "NoName"), key := Value.str (Str.ofString "NoName") 1250, val := Value.ref 809 }, { hash := PyData.keyHash PP (Str.ofString "NoPath"), key := Value.str (Str.ofString "NoPath") 1266, val := Value.ref 821 }, { hash := PyData.keyHash PP (Str.ofString "NoQuestion"), key := Value.str (Str.ofString "NoQuestion") 1282, val := Value.ref 833 }, { hash := PyData.keyHash PP (Str.ofString "NotClosed"), key := Value.str (Str.ofString "NotClosed") 1307, val := Value.ref 852 }, { hash := PyData.keyHash PP (Str.ofString "NotFlat"), key := Value.str (Str.ofString "NotFlat") 1323, val := Value.ref 864 }, { hash := PyData.keyHash PP (Str.ofString "NotMirrored"), key := Value.str (Str.ofString "NotMirrored") 1339, val := Value.ref 876 }, { hash := PyData.keyHash PP (Str.ofString "NothingDone"), key := Value.str (Str.ofString "NothingDone") 1355, val := Value.ref 888 }, { hash := PyData.keyHash PP (Str.ofString "NothingUndone"), key := Value.str (Str.ofString "NothingUndone") 1371, val := Value.ref 900 }, { hash := PyData.keyHash PP (Str.ofString "OtherPlaces"), key := Value.str (Str.ofString "OtherPlaces") 1387, val := Value.ref 912 }, { hash := PyData.keyHash PP (Str.ofString "OtherSize"), key := Value.str (Str.ofString "OtherSize") 1403, val := Value.ref 924 }, { hash := PyData.keyHash PP (Str.ofString "Quarrel"), key := Value.str (Str.ofString "Quarrel") 1419, val := Value.ref 936 }, { hash := PyData.keyHash PP (Str.ofString "Quarrels"), key := Value.str (Str.ofString "Quarrels") 1444, val := Value.ref 955 }, { hash := PyData.keyHash PP (Str.ofString "TooMany"), key := Value.str (Str.ofString "TooMany") 1469, val := Value.ref 974 }, { hash := PyData.keyHash PP (Str.ofString "Unkept"), key := Value.str (Str.ofString "Unkept") 1485, val := Value.ref 986 }, { hash := PyData.keyHash PP (Str.ofString "Used"), key := Value.str (Str.ofString "Used") 1501, val := Value.ref 998 }, { hash := PyData.keyHash PP (Str.ofString "Windless"), key := Value.str (Str.ofString "Windless") 1517, val := Value.ref 1010 }, { hash := PyData.keyHash PP (Str.ofString "_law_begun"), key := Value.str (Str.ofString "_law_begun") 1525, val := Value.ref 1017 }, { hash := PyData.keyHash PP (Str.ofString "_law_blend"), key := Value.str (Str.ofString "_law_blend") 1537, val := Value.ref 1024 }, { hash := PyData.keyHash PP (Str.ofString "_law_take"), key := Value.str (Str.ofString "_law_take") 1546, val := Value.ref 1031 }, { hash := PyData.keyHash PP (Str.ofString "_law_pick"), key := Value.str (Str.ofString "_law_pick") 1554, val := Value.ref 1038 }, { hash := PyData.keyHash PP (Str.ofString "_law_kinds"), key := Value.str (Str.ofString "_law_kinds") 1562, val := Value.ref 1045 }, { hash := PyData.keyHash PP (Str.ofString "_law_plain_errors"), key := Value.str (Str.ofString "_law_plain_errors") 1570, val := Value.ref 1052 }, { hash := PyData.keyHash PP (Str.ofString "_law_told_errors"), key := Value.str (Str.ofString "_law_told_errors") 1578, val := Value.ref 1059 }, { hash := PyData.keyHash PP (Str.ofString "_law_any"), key := Value.str (Str.ofString "_law_any") 1586, val := Value.ref 1066 }, { hash := PyData.keyHash PP (Str.ofString "law"), key := Value.str (Str.ofString "law") 1592, val := Value.ref 1071 }] 97 }
def oF12 : Obj := { cls := Value.none, data := Data.fields #[Value.int 2 0, Value.int 0 0, Value.ref 20, Value.int 4 0, Value.int 0 0, Value.ref 33, Value.int 6 0, Value.int 0 0, Value.ref 45, Value.int 8 0, Value.int 0 0, Value.ref 57, Value.int 10 0, Value.int 0 0, Value.ref 69, Value.int 12 0, Value.int 0 0, Value.ref 81, Value.int 14 0, Value.int 0 0, Value.ref 93, Value.int 16 0, Value.int 0 0, Value.ref 105, Value.int 18 0, Value.int 0 0, Value.ref 117, Value.int 20 0, Value.int 0 0, Value.ref 129, Value.int 22 0, Value.int 0 0, Value.ref 141, Value.int 24 0, Value.int 0 0, Value.ref 153, Value.int 28 0, Value.int 0 0, Value.ref 172, Value.int 30 0, Value.int 0 0, Value.ref 184, Value.int 32 0, Value.int 0 0, Value.ref 196, Value.int 34 0, Value.int 0 0, Value.ref 208, Value.int 36 0, Value.int 0 0, Value.ref 220, Value.int 38 0, Value.int 0 0, Value.ref 232, Value.int 40 0, Value.int 0 0, Value.ref 244, Value.int 42 0, Value.int 0 0, Value.ref 256, Value.int 44 0, Value.int 0 0, Value.ref 268, Value.int 46 0, Value.int 0 0, Value.ref 280, Value.int 48 0, Value.int 0 0, Value.ref 292, Value.int 50 0, Value.int 0 0, Value.ref 304, Value.int 52 0, Value.int 0 0, Value.ref 316, Value.int 54 0, Value.int 0 0, Value.ref 328, Value.int 56 0, Value.int 0 0, Value.ref 340, Value.int 58 0, Value.int 0 0, Value.ref 352, Value.int 60 0, Value.int 0 0, Value.ref 364, Value.int 62 0, Value.int 0 0, Value.ref 376, Value.int 66 0, Value.int 0 0, Value.ref 395, Value.int 68 0, Value.int 0 0, Value.ref 407, Value.int 70 0, Value.int 0 0, Value.ref 419, Value.int 72 0, Value.int 0 0, Value.ref 431, Value.int 74 0, Value.int 0 0, Value.ref 443, Value.int 76 0, Value.int 0 0, Value.ref 455, Value.int 78 0, Value.int 0 0, Value.ref 467, Value.int 80 0, Value.int 0 0, Value.ref 479, Value.int 82 0, Value.int 0 0, Value.ref 491, Value.int 84 0, Value.int 0 0, Value.ref 503, Value.int 86 0, Value.int 0 0, Value.ref 515, Value.int 88 0, Value.int 0 0, Value.ref 527, Value.int 90 0, Value.int 0 0, Value.ref 539, Value.int 92 0, Value.int 0 0, Value.ref 551, Value.int 94 0, Value.int 0 0, Value.ref 563, Value.int 96 0, Value.int 0 0, Value.ref 575, Value.int 98 0, Value.int 0 0, Value.ref 587, Value.int 100 0, Value.int 0 0, Value.ref 599, Value.int 102 0, Value.int 0 0, Value.ref 611, Value.int 106 0, Value.int 0 0, Value.ref 630, Value.int 108 0, Value.int 0 0, Value.ref 642, Value.int 110 0, Value.int 0 0, Value.ref 654, Value.int 112 0, Value.int 0 0, Value.ref 666, Value.int 114 0, Value.int 0 0, Value.ref 678, Value.int 116 0, Value.int 0 0, Value.ref 690, Value.int 118 0, Value.int 0 0, Value.ref 702, Value.int 120 0, Value.int 0 0, Value.ref 714, Value.int 122 0, Value.int 0 0, Value.ref 726, Value.int 124 0, Value.int 0 0, Value.ref 738, Value.int 126 0, Value.int 0 0, Value.ref 750, Value.int 128 0, Value.int 0 0, Value.ref 762, Value.int 130 0, Value.int 0 0, Value.ref 774, Value.int 134 0, Value.int 0 0, Value.ref 793, Value.int 136 0, Value.int 0 0, Value.ref 805, Value.int 138 0, Value.int 0 0, Value.ref 817, Value.int 140 0, Value.int 0 0, Value.ref 829, Value.int 142 0, Value.int 0 0, Value.ref 841, Value.int 146 0, Value.int 0 0, Value.ref 860, Value.int 148 0, Value.int 0 0, Value.ref 872, Value.int 150 0, Value.int 0 0, Value.ref 884, Value.int 152 0, Value.int 0 0, Value.ref 896, Value.int 154 0, Value.int 0 0, Value.ref 908, Value.int 156 0, Value.int 0 0, Value.ref 920, Value.int 158 0, Value.int 0 0, Value.ref 932, Value.int 160 0, Value.int 0 0, Value.ref 944, Value.int 164 0, Value.int 0 0, Value.ref 963, Value.int 168 0, Value.int 0 0, Value.ref 982, Value.int 170 0, Value.int 0 0, Value.ref 994, Value.int 172 0, Value.int 0 0, Value.ref 1006, Value.int 175 0, Value.int 0 0, Value.ref 1016, Value.int 178 0, Value.int 0 0, Value.ref 1023, Value.int 187 0, Value.int 0 0, Value.ref 1030, Value.int 195 0, Value.int 0 0, Value.ref 1037, Value.int 197 0, Value.int 0 0, Value.ref 1044, Value.int 226 0, Value.int 0 0, Value.ref 1051, Value.int 247 0, Value.int 0 0, Value.ref 1058, Value.int 257 0, Value.int 0 0, Value.ref 1065, Value.int 260 0, Value.int 0 0, Value.ref 1070] }
def subsF : List Value := [Value.ref 37, Value.ref 49, Value.ref 61, Value.ref 73, Value.ref 85, Value.ref 97, Value.ref 109, Value.ref 121, Value.ref 133, Value.ref 145, Value.ref 164, Value.ref 176, Value.ref 188, Value.ref 200, Value.ref 212, Value.ref 224, Value.ref 236, Value.ref 248, Value.ref 260, Value.ref 272, Value.ref 284, Value.ref 296, Value.ref 308, Value.ref 320, Value.ref 332, Value.ref 344, Value.ref 356, Value.ref 368, Value.ref 387, Value.ref 399, Value.ref 411, Value.ref 423, Value.ref 435, Value.ref 447, Value.ref 459, Value.ref 471, Value.ref 483, Value.ref 495, Value.ref 507, Value.ref 519, Value.ref 531, Value.ref 543, Value.ref 555, Value.ref 567, Value.ref 579, Value.ref 591, Value.ref 603, Value.ref 622, Value.ref 634, Value.ref 646, Value.ref 658, Value.ref 670, Value.ref 682, Value.ref 694, Value.ref 706, Value.ref 718, Value.ref 730, Value.ref 742, Value.ref 754, Value.ref 766, Value.ref 785, Value.ref 797, Value.ref 809, Value.ref 821, Value.ref 833, Value.ref 852, Value.ref 864, Value.ref 876, Value.ref 888, Value.ref 900, Value.ref 912, Value.ref 924, Value.ref 936, Value.ref 955, Value.ref 974, Value.ref 986, Value.ref 998, Value.ref 1010]
def objsF (PP : Params) : List Obj := [boot_o_0 PP, boot_o_1 PP, boot_o_2 PP, oF3 PP, boot_o_4 PP, boot_o_5 PP, boot_o_6 PP, boot_o_7 PP, boot_o_8 PP, boot_o_9 PP, boot_o_10 PP, { cls := Value.type "tuple", data := Data.seq #[] }, oF12, { cls := Value.type "code", data := Data.fields #[Value.str (Str.ofString "<module>") 182, Value.str (Str.ofString "<module>") 183, Value.str (Str.ofString "/claim/cut.py") 184, Value.int 1 0, Value.int 0 0, Value.int 0 0, Value.int 0 0, Value.int 0 0, Value.ref 11, Value.bool false, Value.int 181 0, Value.ref 12, Value.none, Value.none, Value.none, Value.none, Value.int 185 0, Value.int 1 0, Value.str (Str.ofString "/claim/cut.py") 186] }, { cls := Value.type "frame", slots := #[some (Value.ref 13), some (Value.ref 3), some (Value.ref 3), none, some (Value.str (Str.ofString "__main__") 164), none, some (Value.ref 0)] }] ++ (lit0 PP subsF ++ (cls PP (Str.ofString "Asked") 28 207 4 ++ (cls PP (Str.ofString "BadAt") 40 223 6 ++ (cls PP (Str.ofString "BadAtlas") 52 239 8 ++ (cls PP (Str.ofString "BadClaim") 64 255 10 ++ (cls PP (Str.ofString "BadColumns") 76 271 12 ++ (cls PP (Str.ofString "BadCosts") 88 287 14 ++ (cls PP (Str.ofString "BadCount") 100 303 16 ++ (cls PP (Str.ofString "BadCounts") 112 319 18 ++ (cls PP (Str.ofString "BadDeed") 124 335 20 ++ (cls PP (Str.ofString "BadDeeds") 136 351 22 ++ (lit1 PP ++ (cls PP (Str.ofString "BadEnds") 167 392 28 ++ (cls PP (Str.ofString "BadErrand") 179 408 30 ++ (cls PP (Str.ofString "BadExtra") 191 424 32 ++ (cls PP (Str.ofString "BadFact") 203 440 34 ++ (cls PP (Str.ofString "BadFacts") 215 456 36 ++ (cls PP (Str.ofString "BadFlow") 227 472 38 ++ (cls PP (Str.ofString "BadGoal") 239 488 40 ++ (cls PP (Str.ofString "BadHigh") 251 504 42 ++ (cls PP (Str.ofString "BadIndex") 263 520 44 ++ (cls PP (Str.ofString "BadIndexes") 275 536 46 ++ (cls PP (Str.ofString "BadKind") 287 552 48 ++ (cls PP (Str.ofString "BadLine") 299 568 50 ++ (cls PP (Str.ofString "BadLog") 311 584 52 ++ (cls PP (Str.ofString "BadLot") 323 600 54 ++ (cls PP (Str.ofString "BadLow") 335 616 56 ++ (cls PP (Str.ofString "BadMix") 347 632 58 ++ (cls PP (Str.ofString "BadNet") 359 648 60 ++ (lit2 PP ++ (cls PP (Str.ofString "BadPair") 390 689 66 ++ (cls PP (Str.ofString "BadPairs") 402 705 68 ++ (cls PP (Str.ofString "BadParty") 414 721 70 ++ (cls PP (Str.ofString "BadPath") 426 737 72 ++ (cls PP (Str.ofString "BadPlace") 438 753 74 ++ (cls PP (Str.ofString "BadPlaces") 450 769 76 ++ (cls PP (Str.ofString "BadRatio") 462 785 78 ++ (cls PP (Str.ofString "BadRose") 474 801 80 ++ (cls PP (Str.ofString "BadRoutes") 486 817 82 ++ (cls PP (Str.ofString "BadRow") 498 833 84 ++ (cls PP (Str.ofString "BadRows") 510 849 86 ++ (cls PP (Str.ofString "BadScale") 522 865 88 ++ (cls PP (Str.ofString "BadSize") 534 881 90 ++ (cls PP (Str.ofString "BadSpot") 546 897 92 ++ (cls PP (Str.ofString "BadStep") 558 913 94 ++ (cls PP (Str.ofString "BadSteps") 570 929 96 ++ (cls PP (Str.ofString "BadTable") 582 945 98 ++ (cls PP (Str.ofString "BadTables") 594 961 100 ++ (lit3 PP ++ (cls PP (Str.ofString "BadTie") 625 1002 106 ++ (cls PP (Str.ofString "BadTies") 637 1018 108 ++ (cls PP (Str.ofString "BadTime") 649 1034 110 ++ (cls PP (Str.ofString "BadTimes") 661 1050 112 ++ (cls PP (Str.ofString "BadTrip") 673 1066 114 ++ (cls PP (Str.ofString "BadTrips") 685 1082 116 ++ (cls PP (Str.ofString "BadWalk") 697 1098 118 ++ (cls PP (Str.ofString "BadWay") 709 1114 120 ++ (cls PP (Str.ofString "BadWeights") 721 1130 122 ++ (cls PP (Str.ofString "BadWind") 733 1146 124 ++ (cls PP (Str.ofString "BadWord") 745 1162 126 ++ (cls PP (Str.ofString "Endless") 757 1178 128 ++ (lit4 PP ++ (cls PP (Str.ofString "Named") 788 1219 134 ++ (cls PP (Str.ofString "NoName") 800 1235 136 ++ (cls PP (Str.ofString "NoPath") 812 1251 138 ++ (cls PP (Str.ofString "NoQuestion") 824 1267 140 ++ (lit5 PP ++ (cls PP (Str.ofString "NotFlat") 855 1308 146 ++ (cls PP (Str.ofString "NotMirrored") 867 1324 148 ++ (cls PP (Str.ofString "NothingDone") 879 1340 150 ++ (cls PP (Str.ofString "NothingUndone") 891 1356 152 ++ (cls PP (Str.ofString "OtherPlaces") 903 1372 154 ++ (cls PP (Str.ofString "OtherSize") 915 1388 156 ++ (cls PP (Str.ofString "Quarrel") 927 1404 158 ++ (lit6 PP ++ (lit7 PP ++ (cls PP (Str.ofString "Unkept") 977 1470 168 ++ (cls PP (Str.ofString "Used") 989 1486 170 ++ (cls PP (Str.ofString "Windless") 1001 1502 172 ++ (lit8 PP ++ (lit9 PP ++ (lit10 PP ++ (lit11 PP ++ (lit12 PP ++ (lit13 PP ++ (lit14 PP ++ (lit15 PP ++ (lit16 PP))))))))))))))))))))))))))))))))))))))))))))))))))))))))))))))))))))))))))))))))))))))))

def envT : PySem.Env := { scope := R.prog.main.scope, locals := mainNs, globals := mainNs, cells := [], code := .ref 13, frame := some 14 }
def bAll : List Stmt := behindTheImports R.prog
def bA : List Stmt := bAll.take 29
def bB : List Stmt := (bAll.drop 29).take 27
def bC : List Stmt := (bAll.drop 56).take 25
def bD : List Stmt := bAll.drop 81
theorem bAll_eq : bAll = bA ++ (bB ++ (bC ++ (bD ++ []))) := by
  have e : ∀ (l : List Stmt), l = l.take 29 ++ ((l.drop 29).take 27 ++ ((l.drop 56).take 25 ++ (l.drop 81 ++ []))) := fun l => by
    rw [List.append_nil]
    have e1 := (List.take_append_drop 29 l).symm
    have e2 := (List.take_append_drop 27 (l.drop 29)).symm
    have e3 := (List.take_append_drop 25 (l.drop 56)).symm
    rw [List.drop_drop] at e2 e3
    exact e1.trans (congrArg (l.take 29 ++ ·) (e2.trans (congrArg ((l.drop 29).take 27 ++ ·) e3)))
  exact e bAll
abbrev cT : Code := .body bAll envT
abbrev q0 : Pos := { line := 0, col := 0, endLine := 0, endCol := 0 }
abbrev qA : Pos := { line := 58, col := 0, endLine := 59, endCol := 8 }
abbrev qB : Pos := { line := 116, col := 0, endLine := 117, endCol := 8 }
abbrev qC : Pos := { line := 174, col := 0, endLine := 174, endCol := 8 }
abbrev qF : Pos := { line := 260, col := 0, endLine := 274, endCol := 72 }
abbrev anT : Option Value := some (Value.ref 6)
def stT (objs : Params → List Obj) (n k : Nat) (w : World) (os : OsState) : SharedT := ⟨Hs.mkT (objs w.params) .nil 0, n, (boot_heap w.params).life, #[], boot_drawn, k, os⟩
theorem run0 (w : World) (os : OsState) : Hs.toF (stepQ (denQ tabQ) R.prog w) 11 anT 12 (stT objsZ 11 181 w os) (topStub R.prog) = some (stT objsP 15 187 w os, ⟨denQ tabQ cT, cT, q0, [topFrame q0]⟩) := by
  kernel_rfl
theorem runP (w : World) (os : OsState) : Hs.seF (stepQ (denQ tabQ) R.prog w) 11 anT 1 (stT objsP 15 187 w os) (blockOf bAll envT cT q0 [topFrame q0]) = some (.next, stT objsP 15 187 w os, cT, q0) := by
  kernel_rfl
theorem runA (w : World) (os : OsState) : Hs.seF (stepQ (denQ tabQ) R.prog w) 11 anT 6400 (stT objsP 15 187 w os) (piecesOf bA envT cT q0 [topFrame q0]) = some (.next, stT objsA 359 648 w os, cT, qA) := by
  kernel_rfl
theorem runB (w : World) (os : OsState) : Hs.seF (stepQ (denQ tabQ) R.prog w) 11 anT 6400 (stT objsA 359 648 w os) (piecesOf bB envT cT qA [topFrame q0]) = some (.next, stT objsB 697 1098 w os, cT, qB) := by
  kernel_rfl
theorem runC (w : World) (os : OsState) : Hs.seF (stepQ (denQ tabQ) R.prog w) 11 anT 6400 (stT objsB 697 1098 w os) (piecesOf bC envT cT qB [topFrame q0]) = some (.next, stT objsC 1013 1520 w os, cT, qC) := by
  kernel_rfl
theorem runD (w : World) (os : OsState) : Hs.seF (stepQ (denQ tabQ) R.prog w) 11 anT 600 (stT objsC 1013 1520 w os) (piecesOf bD envT cT qC [topFrame q0]) = some (.next, stT objsF 1072 1593 w os, cT, qF) := by
  kernel_rfl
theorem runF (w : World) (os : OsState) : goF (stepQ (denQ tabQ) R.prog w) 11 anT 3 (stT objsF 1072 1593 w os) ⟨doneF .next, cT, qF, [topFrame q0]⟩ = some (stT objsF 1072 1593 w os) := by
  kernel_rfl
end
end K00
set_option Elab.async false
set_option linter.all false
set_option maxRecDepth 100000
set_option maxHeartbeats 0
namespace K00
open PySem PySem.Spec PyProof.Rows L2 RZ Lf
noncomputable section
open PySem.W PySem.Calls HandSHeadRun
abbrev sF (w : World) (os : OsState) : SharedT := stT objsF 1072 1593 w os
abbrev frX (s : PySem.W.SharedT) : PySem.W.Frag := He.frT (getT s) (He.asD (getT s) 4)
theorem boot0 (w : World) (os : OsState) : (stT objsZ 11 181 w os).abs = ⟨boot_heap w.params, #[], boot_drawn, boot_toks, os⟩ := by
  have e : putAll (boot_heap w.params).objs.toList .nil 0 = some (Hs.mkT (objsZ w.params) .nil 0, 11) := by kernel_rfl
  have h := putAll_heap e
  show (⟨absHeap (Hs.mkT (objsZ w.params) .nil 0) 11 (boot_heap w.params).life, #[], boot_drawn, 181, os⟩ : Shared) = _
  rw [h]
  rfl
theorem sg0 (w : World) (os : OsState) : topGo treeTable R.prog w 11 anT 12 (stT objsZ 11 181 w os).abs (topStub R.prog) = some ((stT objsP 15 187 w os).abs, ⟨denote treeTable cT, cT, q0, [topFrame q0]⟩) := by
  have e : Hs.toF (stepT (denote treeTable) R.prog w) 11 anT 12 (stT objsZ 11 181 w os) (topStub R.prog) = some (stT objsP 15 187 w os, ⟨denQ tabQ cT, cT, q0, [topFrame q0]⟩) := (congrArg (fun f => Hs.toF f 11 anT 12 (stT objsZ 11 181 w os) (topStub R.prog)) (Hs.st_eq R.prog w)).symm.trans (run0 w os)
  have d : denQ tabQ cT = denote treeTable cT := by rw [denQ_eq, tabQ_eq]
  have h := Hs.toF_ok e
  exact h.trans (congrArg (fun z => some ((stT objsP 15 187 w os).abs, (⟨z, cT, q0, [topFrame q0]⟩ : Thread))) d)
theorem sgOf {w : World} {m : Nat} {s s' : SharedT} {t : Thread} {q : Pos} (h : Hs.seF (stepQ (denQ tabQ) R.prog w) 11 anT m s t = some (.next, s', cT, q)) : segRun treeTable R.prog w 11 anT 1 m s.abs t = some (.next, s'.abs, cT, q) :=
  Hs.seF_ok ((congrArg (fun f => Hs.seF f 11 anT m s t) (Hs.st_eq R.prog w)).symm.trans h)
theorem sgF (w : World) (os : OsState) : topRun treeTable R.prog w 11 anT 3 (sF w os).abs ⟨doneF .next, cT, qF, [topFrame q0]⟩ = some (sF w os).abs :=
  goF_ok ((congrArg (fun f => goF f 11 anT 3 (sF w os) ⟨doneF .next, cT, qF, [topFrame q0]⟩) (Hs.st_eq R.prog w)).symm.trans (runF w os))
theorem kD (w : World) (os : OsState) : topRun treeTable R.prog w 11 anT (600 + 3) (stT objsC 1013 1520 w os).abs (restOf (bD ++ []) envT cT qC [topFrame q0]) = some (sF w os).abs := piece_app (sgOf (runD w os)) (piece_nil (sgF w os))
theorem kC (w : World) (os : OsState) : topRun treeTable R.prog w 11 anT (6400 + (600 + 3)) (stT objsB 697 1098 w os).abs (restOf (bC ++ (bD ++ [])) envT cT qB [topFrame q0]) = some (sF w os).abs := piece_app (sgOf (runC w os)) (kD w os)
theorem kB (w : World) (os : OsState) : topRun treeTable R.prog w 11 anT (6400 + (6400 + (600 + 3))) (stT objsA 359 648 w os).abs (restOf (bB ++ (bC ++ (bD ++ []))) envT cT qA [topFrame q0]) = some (sF w os).abs := piece_app (sgOf (runB w os)) (kC w os)
theorem kA (w : World) (os : OsState) : topRun treeTable R.prog w 11 anT (6400 + (6400 + (6400 + (600 + 3)))) (stT objsP 15 187 w os).abs (restOf (bA ++ (bB ++ (bC ++ (bD ++ [])))) envT cT q0 [topFrame q0]) = some (sF w os).abs := piece_app (sgOf (runA w os)) (kB w os)
theorem kA2 (w : World) (os : OsState) : topRun treeTable R.prog w 11 anT (6400 + (6400 + (6400 + (600 + 3)))) (stT objsP 15 187 w os).abs (restOf bAll envT cT q0 [topFrame q0]) = some (sF w os).abs :=
  (congrArg (fun l => topRun treeTable R.prog w 11 anT (6400 + (6400 + (6400 + (600 + 3)))) (stT objsP 15 187 w os).abs (restOf l envT cT q0 [topFrame q0])) bAll_eq).trans (kA w os)
theorem kP (w : World) (os : OsState) : topRun treeTable R.prog w 11 anT (1 + (6400 + (6400 + (6400 + (600 + 3))))) (stT objsP 15 187 w os).abs ⟨denote treeTable cT, cT, q0, [topFrame q0]⟩ = some (sF w os).abs := piece_block (sgOf (runP w os)) (kA2 w os)
theorem topAll (w : World) (os : OsState) : topRun treeTable R.prog w 11 anT (12 + (1 + (6400 + (6400 + (6400 + (600 + 3)))))) ⟨boot_heap w.params, #[], boot_drawn, boot_toks, os⟩ (topStub R.prog) = some (sF w os).abs :=
  (congrArg (fun u => topRun treeTable R.prog w 11 anT (12 + (1 + (6400 + (6400 + (6400 + (600 + 3)))))) u (topStub R.prog)) (boot0 w os)).symm.trans (go_top (sg0 w os) (kP w os))
theorem lookA (w : World) (os : OsState) : (looksF R.prog (boot_heap w.params) (sF w os).abs, seenQ (view R.prog [89]) loose (importedModules R.prog.main.body) (fun s => xlAt (view R.prog [89]) [] s && recOk R.toRowW.records s) (sF w os).abs) = (true, openGood (view R.prog [89]) loose) := by
  kernel_rfl
theorem lookB (w : World) (os : OsState) : (facts.all (fun f => f.ok (frX (sF w os))), (erB ern) (frX (sF w os)) && He.tabsB (getT (sF w os)) [] (frX (sF w os))) = (true, true) := by
  kernel_rfl
theorem lookC (w : World) (os : OsState) : (fns.all fun d => d.ok (frX (sF w os))) = true := by
  kernel_rfl
theorem lookD (w : World) (os : OsState) : (fns.map fun d => He.fnW (frX (sF w os)) d.at_) = fns.map He.DefD.val := by
  kernel_rfl
theorem obs_val (w : World) (os : OsState) : hk.obs (sF w os).abs = hk.val w := by
  rw [← ob_eq]
  show ((((facts.all fun f => f.ok (frX (sF w os))) && fns.all fun d => d.ok (frX (sF w os)), fns.map fun d => He.fnW (frX (sF w os)) d.at_), []), (erB ern) (frX (sF w os)) && He.tabsB (getT (sF w os)) [] (frX (sF w os))) = (((true, fns.map He.DefD.val), []), true)
  have b := lookB w os
  have b1 := congrArg Prod.fst b
  have b2 := congrArg Prod.snd b
  dsimp only at b1 b2
  rw [lookD w os, lookC w os, b1, b2]
  rfl
theorem size0 (w : World) : ((boot_heap w.params).isNs mainGlobals && (#[] : Array GenState).size == 0, (boot_heap w.params).objs.size, (boot_heap w.params).nsMap mainGlobals "__annotations__") = (true, 11, anT) := by
  kernel_rfl
theorem op0 : ∀ w : World, (fencedOpening treeTable R.prog w 20000).map (fun s => (s.heap, s.gens, s.drawn, s.toks)) = some (boot_heap w.params, Array.mk [], boot_drawn, boot_toks) := boot_open (by kernel_rfl) (by decide) (fun s => by kernel_rfl)
theorem look1 (w : World) (os : OsState) : (looksF R.prog (boot_heap w.params) (sF w os).abs, openSeen (view R.prog [89]) loose (importedModules R.prog.main.body) (fun s => xlAt (view R.prog [89]) [] s && recOk R.toRowW.records s) true (sF w os).abs, hk.obs (sF w os).abs) = (true, openGood (view R.prog [89]) loose, hk.val w) := by
  have a := lookA w os
  rw [← seenQ_eq, Prod.mk.injEq] at a
  rw [a.1, a.2, obs_val]
def heapF (P : Params) : Heap := absHeap (Hs.mkT (objsF P) .nil 0) 1072 (boot_heap P).life
theorem abs1 (w : World) (os : OsState) : (sF w os).abs = ⟨heapF w.params, #[], boot_drawn, 1593, os⟩ := by kernel_rfl
theorem topAll1 (w : World) (os : OsState) : topRun treeTable R.prog w 11 anT (12 + (1 + (6400 + (6400 + (6400 + (600 + 3)))))) ⟨boot_heap w.params, #[], boot_drawn, boot_toks, os⟩ (topStub R.prog) = some ⟨heapF w.params, #[], boot_drawn, 1593, os⟩ := by
  rw [← abs1 w os]
  exact topAll w os
theorem look2 (w : World) (os : OsState) : ((staticsOk (importedModules R.prog.main.body) (boot_heap w.params) (heapF w.params) && namesBound R.prog (heapF w.params) && gensDone ⟨heapF w.params, #[], boot_drawn, 1593, os⟩ && laidKept (boot_heap w.params) (heapF w.params)),
    openSeen (view R.prog [89]) loose (importedModules R.prog.main.body) (fun s => xlAt (view R.prog [89]) [] s && recOk R.toRowW.records s) true ⟨heapF w.params, #[], boot_drawn, 1593, os⟩, hk.obs ⟨heapF w.params, #[], boot_drawn, 1593, os⟩) = (true, openGood (view R.prog [89]) loose, hk.val w) := by
  have a := look1 w os
  rw [abs1 w os] at a
  exact a
theorem left : LeftO R.prog (view R.prog [89]) loose (fun s => xlAt (view R.prog [89]) [] s && recOk R.toRowW.records s) hk.obs hk.val 20000 :=
  LeftO.of_pieces (H₀ := fun P => boot_heap P) (H₁ := fun P => heapF P) (gs₀ := #[]) (gs₁ := #[]) (d₀ := boot_drawn) (d₁ := boot_drawn) (k₀ := boot_toks) (k₁ := 1593) (m₀ := 11) (ann := anT) (M := 12 + (1 + (6400 + (6400 + (6400 + (600 + 3))))))
    op0 size0 topAll1 (by decide) fun w => funext fun os => look2 w os
end
end K00
set_option Elab.async false
set_option linter.all false
set_option maxRecDepth 100000
set_option maxHeartbeats 4000000
set_option synthInstance.maxHeartbeats 4000000
set_option synthInstance.maxSize 100000
namespace K00
open PySem PySem.Spec PyProof.Rows L2 RZ Lf
section
variable {env : Lf.Env} {a : DE} {da : DA} {S : D → Prop} {E : DEnds} {s1 : DS} {i j : Nat}
theorem es_key {x : Str} (h : env[i]? = some (some (.o drw))) (hx : x = ("rest" : Str) ∨ x = ("turn" : Str)) : Es (dKey i x) env fun d => ∃ n : Int, 0 ≤ n ∧ d = .int n := fun C k => ⟨h, .inl ⟨hx, fun n hn => k _ ⟨n, hn, rfl⟩⟩⟩
theorem es_cells (h : env[i]? = some (some (.o drw))) : Es (dKey i "cells") env fun d => ∃ ns : List Int, (∀ n ∈ ns, 0 ≤ n) ∧ d = .lst (ns.map .int) := fun C k => ⟨h, .inr ⟨rfl, fun ns hn => k _ ⟨ns, hn, rfl⟩⟩⟩
theorem ea_consS {A : D → Prop} {B : List D → Prop} (h : Es a env A) (h2 : Ea da env B) : Ea (dCons a da) env fun ds => ∃ x r, A x ∧ B r ∧ ds = x :: r := fun C k => h _ fun x hx => h2 _ fun r hr => k _ ⟨x, r, hx, hr, rfl⟩
theorem st_parS {T : List D → Prop} (h : Ea da env T) (f1 : free env i = true) (f2 : free env j = true) (k : ∀ ds, T ds → ∃ x y, ds = [x, y] ∧ E.nx ((env.set i (some (.d x))).set j (some (.d y)))) : dPar i j da env E := h _ fun ds hd => let ⟨x, y, e, q⟩ := k ds hd; ⟨keepE_refl, x, y, e, f1, f2, q⟩
theorem st_put {x : Str} (h : Es a env fun d => ∃ n : Int, 0 ≤ n ∧ d = .int n) (ho : env[i]? = some (some (.o drw))) (hx : x = ("rest" : Str) ∨ x = ("turn" : Str)) (k : E.nx env) : dPutO i x a env E := h _ fun d ⟨n, hn, e⟩ => ⟨keepE_refl, ho, hx, n, e, hn, k⟩
theorem ei_seqS {T : List D → Prop} (h : Es a env fun d => ∃ xs, d.items? = some xs ∧ T xs) : Ei (diSeq a) env T := fun C k => h _ fun d ⟨xs, e, hx⟩ => ⟨xs, e, k xs hx⟩
theorem st_forS {di : DI} {dg : DG} {T : List D → Prop} (hi : Ei di env T) (h : ∀ xs, T xs → ∃ W : Nat → Lf.Env → Prop, W 0 env ∧ (∀ i x e, xs[i]? = some x → W i e → ∃ e2, Tg dg x e e2 ∧ s1 e2 { nx := W (i + 1), ct := W (i + 1), bk := E.nx, rt := E.rt }) ∧ ∀ e, W xs.length e → E.nx e) : dFor di dg s1 env E :=
  hi _ fun xs hx => by
    obtain ⟨W, h0, h1, h2⟩ := h xs hx
    exact ⟨keepE_refl, W, h0, fun i e hw => ⟨fun x hx => let ⟨e2, q1, q2⟩ := h1 i x e hx hw; q1 _ q2, fun el => h2 e (el ▸ hw)⟩⟩
end
def w_law_blend : OW := fun w ds C => w = drw ∧ ds = [] ∧ ∀ n : Int, 0 ≤ n → C (.int n) drw
def r_law_blend : DS := (dSeq (dPar 2 3 (dCons (dOp dbAdd (dKey 0 "turn") (dC (.int 1))) (dCons (dC (.int 0)) dNil))) (dSeq (dPutO 0 "turn" (dVar 2)) (dSeq (dFor (diSeq (dLst (dCons (dC (.int 2147483629)) (dCons (dC (.int 2147483587)) (dCons (dC (.int 2147483579)) dNil))))) (dgN 1) (dSeq (dAsg (dOp (rIIc (fun _ j => 0 < j) fun i j => i % j) (dCB dInt1 (dCons (dOp dbAdd (dOp dbMul (dVar 2) (dC (.int 69621))) (dOp dbFdiv (dVar 1) (dC (.int 7)))) dNil)) (dVar 1)) (dgN 4)) (dSeq (dFor (diSeq (dKey 0 "cells")) (dgN 5) (dAsg (dOp (rIIc (fun _ j => 0 < j) fun i j => i % j) (dCB dInt1 (dCons (dOp dbAdd (dOp dbAdd (dOp dbMul (dVar 4) (dC (.int 48271))) (dCB dInt1 (dCons (dVar 5) dNil))) (dC (.int 1))) dNil)) (dVar 1)) (dgN 4))) (dAsg (dOp dbAdd (dOp dbMul (dVar 3) (dC (.int 2147483647))) (dOp (rIIc (fun _ j => 0 < j) fun i j => i % j) (dCB dInt1 (dCons (dOp (rIIc CPow fun i j => i ^ j.toNat) (dVar 4) (dC (.int 5))) dNil)) (dVar 1))) (dgN 3))))) (dRet (dVar 3)))))
theorem mod_rng {i p : Int} (h : 0 < p) : 0 ≤ i % p ∧ i % p < p := ⟨Int.emod_nonneg _ (by omega), Int.emod_lt_of_pos _ h⟩
theorem body_law_blend : ∀ (w : Ow) (as : List D) (C : D → Ow → Prop), as.length + 1 = 1 → w_law_blend w as C →
    r_law_blend (some (.o w) :: env0 (["draw", "prime", "turn", "found", "mixed", "cell"].length - 1) as) { nx := fun env' => ∃ w', env'[0]? = some (some (.o w')) ∧ C .non w', rt := fun d env' => ∃ w', env'[0]? = some (some (.o w')) ∧ C d w' } := by
  rintro w as C _ ⟨rfl, rfl, h⟩
  refine st_seq (st_parS (T := fun ds => ∃ n : Int, 0 ≤ n ∧ ds = [.int n, .int 0]) (fun C k => ?_) (by rfl) (by rfl) ?_)
  · refine ea_consS (A := fun d => ∃ n : Int, 0 ≤ n ∧ d = .int n) (B := fun ds => ds = [.int 0]) ?_ (ea_cons ev_c ea_nil) _ ?_
    · exact es_op (A := fun d => ∃ n : Int, 0 ≤ n ∧ d = .int n) (B := fun d => d = .int 1) (es_key (by rfl) (.inr rfl)) ev_c fun x y ⟨n, hn, ex⟩ ey C k => by subst ex ey; exact rv_add rfl (k (.int (n + 1)) ⟨n + 1, by omega, rfl⟩)
    · rintro ds ⟨x, r, ⟨n, hn, rfl⟩, rfl, rfl⟩
      exact k _ ⟨n, hn, rfl⟩
  rintro ds ⟨turn, ht, rfl⟩
  refine ⟨_, _, rfl, ?_⟩
  refine st_seq (st_put (Es.imp (ev_var (by rfl)) fun d e => ⟨turn, ht, e⟩) (by rfl) (.inr rfl) ?_)
  refine st_seq (st_for (xs := [.int 2147483629, .int 2147483587, .int 2147483579]) (fun i e => ∃ (t u v : Option D) (found : Int), 0 ≤ found ∧ e = [some (.o drw), t.map .d, some (.d (.int turn)), some (.d (.int found)), u.map .d, v.map .d])
    (ei_seq (ev_lst (ea_cons ev_c (ea_cons ev_c (ea_cons ev_c ea_nil))) (by decide)) rfl) ⟨none, none, none, 0, by omega, by rfl⟩ ?_ ?_)
  · rintro i x e hx ⟨t, u, v, found, hf, rfl⟩
    obtain ⟨p, hp, hp2, rfl⟩ : ∃ p : Int, 2 ≤ p ∧ p < 2147483648 ∧ x = .int p := by
      match i, hx with
      | 0, hx => exact ⟨2147483629, by decide, by decide, by simpa using hx.symm⟩
      | 1, hx => exact ⟨2147483587, by decide, by decide, by simpa using hx.symm⟩
      | 2, hx => exact ⟨2147483579, by decide, by decide, by simpa using hx.symm⟩
    refine ⟨_, tg_n (by cases t <;> rfl), ?_⟩
    refine st_seq (st_asg1 (d := .int ((turn * 69621 + p / 7) % p)) ?_ (by cases u <;> rfl) ?_)
    · exact ev_op (ev_cb (ea_cons (ev_op (ev_op (ev_var (by rfl)) ev_c fun C k => rv_mul (.inl (.inr ⟨by decide, by decide⟩)) rfl k) (ev_op (ev_var (by rfl)) ev_c fun C k => rv_fdivW (wide_div (b := 8) (by decide) (by decide) (by decide) (by decide)) rfl k) fun C k => rv_add rfl k) ea_nil) fun C k => cv_int1 k) (ev_var (by rfl)) fun C k => rv_iic (by omega) rfl k
    refine st_seq (st_forS (T := fun xs => ∃ ns : List Int, xs = ns.map .int) (ei_seqS (Es.imp (es_cells (by rfl)) fun d ⟨ns, _, e⟩ => ⟨ns.map .int, by rw [e]; rfl, ns, rfl⟩)) ?_)
    rintro xs ⟨ns, rfl⟩
    refine ⟨fun i e => ∃ (v : Option D) (mixed : Int), 0 ≤ mixed ∧ mixed < p ∧ e = [some (.o drw), some (.d (.int p)), some (.d (.int turn)), some (.d (.int found)), some (.d (.int mixed)), v.map .d], ?_, ?_, ?_⟩
    · exact ⟨v, _, (mod_rng (by omega)).1, (mod_rng (by omega)).2, by rfl⟩
    · rintro j y e hy ⟨v, mixed, m0, m1, rfl⟩
      obtain ⟨c, rfl⟩ : ∃ c, y = .int c := by
        rw [List.getElem?_map] at hy
        cases q : ns[j]? with
        | none => rw [q] at hy; cases hy
        | some c => rw [q] at hy; exact ⟨c, by simpa using hy.symm⟩
      refine ⟨_, tg_n (by cases v <;> rfl), st_asg1 (d := .int ((mixed * 48271 + c + 1) % p)) ?_ (by rfl) ⟨some (.int c), _, (mod_rng (by omega)).1, (mod_rng (by omega)).2, by rfl⟩⟩
      exact ev_op (ev_cb (ea_cons (ev_op (ev_op (ev_op (ev_var (by rfl)) ev_c fun C k => rv_mul (.inl (.inr ⟨by decide, by decide⟩)) rfl k) (ev_cb (ea_cons (ev_var (by rfl)) ea_nil) fun C k => cv_int1 k) fun C k => rv_add rfl k) ev_c fun C k => rv_add rfl k) ea_nil) fun C k => cv_int1 k) (ev_var (by rfl)) fun C k => rv_iic (by omega) rfl k
    · rintro e ⟨v, mixed, m0, m1, rfl⟩
      dsimp only
      refine st_asg1 (d := .int (found * 2147483647 + mixed ^ 5 % p)) ?_ (by rfl) ⟨some (.int p), some (.int mixed), v, _, ?_, by rfl⟩
      · exact ev_op (ev_op (ev_var (by rfl)) ev_c fun C k => rv_mul (.inl (.inr ⟨by decide, by decide⟩)) rfl k) (ev_op (ev_cb (ea_cons (ev_op (ev_var (by rfl)) ev_c fun C k => rv_iic (k := mixed ^ 5) ⟨by decide, by decide, by omega⟩ rfl k) ea_nil) fun C k => cv_int1 k) (ev_var (by rfl)) fun C k => rv_iic (by omega) rfl k) fun C k => rv_add rfl k
      · have := (mod_rng (i := mixed ^ 5) (p := p) (by omega)).1
        omega
  · rintro e ⟨t, u, v, found, hf, rfl⟩
    exact st_ret1 (ev_var (by rfl)) ⟨drw, by rfl, h found hf⟩
section
variable {P : Program} {w : World} {K : PySem.W.Frag} {mg : Str → Option Value} {base : Heap}
theorem sc_law_blend : FnScope ["draw", "prime", "turn", "found", "mixed", "cell"] ["draw"] (defScope (top 82)) := ⟨rfl, rfl, rfl, by decide +kernel, rfl, by decide +kernel, by decide +kernel⟩
theorem ok_law_blend (T : Top P w K mg) : Fn P w K mg base 1 "_law_blend" ["draw"] (OSp 1 w_law_blend) := by
  obtain ⟨fd, F⟩ := T.fn 1 (x := "_law_blend") (st := (top 82)) rfl
  have sc := sc_law_blend
  have tm : ∀ x, x ∈ frees → mg x = none := fun x hx => T.free x (mem_free hx)
  refine ⟨⟨fd, F.ok sc (fun vs H Q E h => h.len) (fun cdv A outer s H vs Q E hr h => ?d), F.bindsN fun _ _ _ _ _ _ us hl => match us, hl with | [_], _ => rfl⟩, T.glo "_law_blend" (mem_glo (by decide +kernel)), F.kp⟩
  exact ⟨_, PSs.nox (pss_cons (ps_par (by rfl) sc.nd rfl rfl (by decide) rfl rfl (pa_cons (pe_op (show OpR _ _ (rbAdd K) from ob_add) (pe_dget (hu_of hr) (pv 0) pe_str (fun _ _ => rfl)) pe_int) (pa_cons pe_int pa_nil)) (by rfl)) (pss_cons (ps_dput (hu_of hr) (pv 0) pe_str (pv 2) rfl) (pss_cons (ps_for PassesOwn.never rfl (pi_seq (pe_lst (pa_cons pe_int (pa_cons pe_int (pa_cons pe_int pa_nil))))) (pg_name (i := 1) sc.nd rfl (by first | exact Or.inl rfl | exact Or.inr rfl)) (pss_cons (ps_set (i := 4) sc.nd rfl (by first | exact Or.inl rfl | exact Or.inr rfl) (pe_op op_mod (pe_callTy cl_int (by rfl) (tm "int" (by decide +kernel)) (by decide +kernel) (pa_cons (pe_op (show OpR _ _ (rbAdd K) from ob_add) (pe_op (show OpR _ _ (rbMul K) from ob_mul) (pv 2) pe_int) (pe_op ob_fdiv (pv 1) pe_int)) pa_nil)) (pv 1))) (pss_cons (ps_for PassesOwn.never rfl (pi_seq (pe_dget (hu_of hr) (pv 0) pe_str (fun _ _ => rfl))) (pg_name (i := 5) sc.nd rfl (by first | exact Or.inl rfl | exact Or.inr rfl)) (pss_one (ps_set (i := 4) sc.nd rfl (by first | exact Or.inl rfl | exact Or.inr rfl) (pe_op op_mod (pe_callTy cl_int (by rfl) (tm "int" (by decide +kernel)) (by decide +kernel) (pa_cons (pe_op (show OpR _ _ (rbAdd K) from ob_add) (pe_op (show OpR _ _ (rbAdd K) from ob_add) (pe_op (show OpR _ _ (rbMul K) from ob_mul) (pv 4) pe_int) (pe_callTy cl_int (by rfl) (tm "int" (by decide +kernel)) (by decide +kernel) (pa_cons (pv 5) pa_nil))) pe_int) pa_nil)) (pv 1))))) (pss_one (ps_set (i := 3) sc.nd rfl (by first | exact Or.inl rfl | exact Or.inr rfl) (pe_op (show OpR _ _ (rbAdd K) from ob_add) (pe_op (show OpR _ _ (rbMul K) from ob_mul) (pv 3) pe_int) (pe_op op_mod (pe_callTy cl_int (by rfl) (tm "int" (by decide +kernel)) (by decide +kernel) (pa_cons (pe_op op_pow (pv 4) pe_int) pa_nil)) (pv 1)))))))) (pss_one (ps_ret (pv 3)))))), os_body h (ds := r_law_blend) inferInstance body_law_blend⟩

end
end K00
set_option Elab.async false
set_option linter.all false
set_option maxRecDepth 100000
set_option maxHeartbeats 4000000
set_option synthInstance.maxHeartbeats 4000000
set_option synthInstance.maxSize 100000
namespace K00
open PySem PySem.Spec PyProof.Rows L2 RZ Lf
section
variable {env : Lf.Env} {da : DA} {S : D → Prop} {E : DEnds} {i : Nat}
theorem es_callO {n : Nat} {ow : OW} {w : Ow} {ds : List D} (hw : env[i]? = some (some (.o w))) (h : EvA da env ds) (l : ds.length + 1 = n) (k : ∀ C : D → Ow → Prop, (∀ d, S d → C d w) → ow w ds C) : Es (dCallO n ow i da) env S := fun C q =>
  ⟨⟨w, hw⟩, h _ fun _ e => by
    subst e
    refine ⟨l, keepE_refl, w, hw, k _ fun d hd => ?_⟩
    rw [set_self hw]
    exact q d hd⟩
theorem st_drain (h : env[i]? = some (some (.o drw))) (k : E.nx env) : dDrain i "rest" "large" 0 0 env E := ⟨h, rfl, rfl, rfl, rfl, k⟩
end
/-- any number below the size -/
def w_law_take : OW := fun w ds C => w = drw ∧ ∃ size : Int, 1 ≤ size ∧ size < 1073741824 ∧ ds = [.int size] ∧ ∀ k : Int, 0 ≤ k → k < size → C (.int k) drw
def r_law_take : DS := (dSeq (dDrain 0 "rest" "large" 0 0) (dSeq (dIfS (dTest (dOp dEqD (dKey 0 "rest") (dC (.int 0)))) (dPutO 0 "rest" (dCallO 1 w_law_blend 0 dNil)) dNext) (dSeq (dAsg (dOp (rIIc (fun _ j => 0 < j) fun i j => i % j) (dCB dInt1 (dCons (dKey 0 "rest") dNil)) (dVar 1)) (dgN 2)) (dSeq (dPutO 0 "rest" (dOp dbFdiv (dCB dInt1 (dCons (dKey 0 "rest") dNil)) (dVar 1))) (dRet (dVar 2))))))
theorem tail {size : Int} {C : D → Ow → Prop} (h1 : 1 ≤ size) (h2 : size < 1073741824) (h : ∀ k : Int, 0 ≤ k → k < size → C (.int k) drw) :
    (dSeq (dAsg (dOp (rIIc (fun _ j => 0 < j) fun i j => i % j) (dCB dInt1 (dCons (dKey 0 "rest") dNil)) (dVar 1)) (dgN 2)) (dSeq (dPutO 0 "rest" (dOp dbFdiv (dCB dInt1 (dCons (dKey 0 "rest") dNil)) (dVar 1))) (dRet (dVar 2)))) [some (.o drw), some (.d (.int size)), none] { nx := fun env' => ∃ w', env'[0]? = some (some (.o w')) ∧ C .non w', rt := fun d env' => ∃ w', env'[0]? = some (some (.o w')) ∧ C d w' } := by
  have hk : ∀ env : Lf.Env, env[0]? = some (some (.o drw)) → Es (dCB dInt1 (dCons (dKey 0 "rest") dNil)) env fun d => ∃ n : Int, 0 ≤ n ∧ d = .int n := fun env he =>
    es_cb (T := fun ds => ∃ n : Int, 0 ≤ n ∧ ds = [.int n]) (fun C k => es_cons1 (es_key he (.inl rfl)) _ fun ds ⟨x, ⟨n, hn, ex⟩, e⟩ => k _ ⟨n, hn, by rw [e, ex]⟩) fun ds ⟨n, hn, e⟩ C k => by subst e; exact cv_int1 (k _ ⟨n, hn, rfl⟩)
  refine st_seq (st_asg (S := fun d => ∃ k : Int, 0 ≤ k ∧ k < size ∧ d = .int k) (es_op (A := fun d => ∃ n : Int, 0 ≤ n ∧ d = .int n) (B := fun d => d = .int size) (hk _ (by rfl)) (ev_var (by rfl)) fun x y ⟨n, hn, ex⟩ ey C k => by
    subst ex ey; exact rv_iic (by omega) rfl (k _ ⟨_, (mod_rng (by omega)).1, (mod_rng (by omega)).2, rfl⟩)) (by rfl) ?_)
  rintro d ⟨k, k0, k1, rfl⟩
  refine st_seq (st_put (es_op (A := fun d => ∃ n : Int, 0 ≤ n ∧ d = .int n) (B := fun d => d = .int size) (hk _ (by rfl)) (ev_var (by rfl)) fun x y ⟨n, hn, ex⟩ ey C k => by
    subst ex ey; exact rv_fdivN ⟨by omega, by omega⟩ rfl (k _ ⟨n.fdiv size, Int.fdiv_nonneg hn (by omega), rfl⟩)) (by rfl) (.inl rfl) ?_)
  exact st_ret1 (ev_var (by rfl)) ⟨drw, by rfl, h k k0 k1⟩
theorem body_law_take : ∀ (w : Ow) (as : List D) (C : D → Ow → Prop), as.length + 1 = 2 → w_law_take w as C →
    r_law_take (some (.o w) :: env0 (["draw", "size", "found"].length - 2) as) { nx := fun env' => ∃ w', env'[0]? = some (some (.o w')) ∧ C .non w', rt := fun d env' => ∃ w', env'[0]? = some (some (.o w')) ∧ C d w' } := by
  rintro w as C _ ⟨rfl, size, h1, h2, rfl, h⟩
  refine st_seq (st_drain (by rfl) ?_)
  refine st_seq (st_if (T := fun _ => True) (es_test (es_op (A := fun d => ∃ n : Int, 0 ≤ n ∧ d = .int n) (B := fun d => d = .int 0) (es_key (by rfl) (.inl rfl)) ev_c fun x y ⟨n, hn, ex⟩ ey C k => by subst ex ey; exact rv_eq flat_int.shp flat_int.shp rfl (k _ ⟨_, rfl, trivial⟩))) (fun _ => ?_) fun _ => ?_)
  · refine st_put (es_callO (by rfl) ea_nil rfl fun C k => ⟨rfl, rfl, fun n hn => k _ ⟨n, hn, rfl⟩⟩) (by rfl) (.inl rfl) ?_
    exact tail h1 h2 h
  · exact tail h1 h2 h
section
variable {P : Program} {w : World} {K : PySem.W.Frag} {mg : Str → Option Value} {base : Heap}
theorem sc_law_take : FnScope ["draw", "size", "found"] ["draw", "size"] (defScope (top 83)) := ⟨rfl, rfl, rfl, by decide +kernel, rfl, by decide +kernel, by decide +kernel⟩
theorem ok_law_take (T : Top P w K mg) : Fn P w K mg base 2 "_law_take" ["draw", "size"] (OSp 2 w_law_take) := by
  obtain ⟨fd, F⟩ := T.fn 2 (x := "_law_take") (st := (top 83)) rfl
  have sc := sc_law_take
  have tm : ∀ x, x ∈ frees → mg x = none := fun x hx => T.free x (mem_free hx)
  refine ⟨⟨fd, F.ok sc (fun vs H Q E h => h.len) (fun cdv A outer s H vs Q E hr h => ?d), F.bindsN fun _ _ _ _ _ _ us hl => match us, hl with | [_, _], _ => rfl⟩, T.glo "_law_take" (mem_glo (by decide +kernel)), F.kp⟩
  exact ⟨_, PSs.nox (pss_cons (ps_while PassesOwn.never (PW.pt (pw_and (pt_cmpR (show OpR _ _ (rEqD K) from op_eqD hr.units) (pe_dget (hu_of hr) (pv 0) pe_str (fun _ _ => rfl)) pe_int (nomark _)) (pw_and1 (pt_cmpR (show OpR _ _ (rNeD K) from op_neD hr.units) (pe_dget (hu_of hr) (pv 0) pe_str (fun _ _ => rfl)) (pe_lst pa_nil) (nomark _))))) (pss_one (ps_dput (hu_of hr) (pv 0) pe_str (pe_bm PySem.F.plainAttrs_list PySem.F.slot_list_pop PySem.F.type_list_pop mt_popAt (pe_dget (hu_of hr) (pv 0) pe_str (fun _ _ => rfl)) (pa_cons pe_int pa_nil)) rfl))) (pss_cons (ps_if (pt_cmpR (show OpR _ _ (rEqD K) from op_eqD hr.units) (pe_dget (hu_of hr) (pv 0) pe_str (fun _ _ => rfl)) pe_int (nomark _)) (pss_one (ps_dput (hu_of hr) (pv 0) pe_str (pe_fO (ok_law_blend T) hr (by rfl) 0 (pa_cons (pv 0) pa_nil)) rfl)) pss_nil) (pss_cons (ps_set (i := 2) sc.nd rfl (by first | exact Or.inl rfl | exact Or.inr rfl) (pe_op op_mod (pe_callTy cl_int (by rfl) (tm "int" (by decide +kernel)) (by decide +kernel) (pa_cons (pe_dget (hu_of hr) (pv 0) pe_str (fun _ _ => rfl)) pa_nil)) (pv 1))) (pss_cons (ps_dput (hu_of hr) (pv 0) pe_str (pe_op ob_fdiv (pe_callTy cl_int (by rfl) (tm "int" (by decide +kernel)) (by decide +kernel) (pa_cons (pe_dget (hu_of hr) (pv 0) pe_str (fun _ _ => rfl)) pa_nil)) (pv 1)) rfl) (pss_one (ps_ret (pv 2))))))), os_body h (ds := r_law_take) inferInstance body_law_take⟩

end
end K00
set_option Elab.async false
set_option linter.all false
set_option maxRecDepth 100000
set_option maxHeartbeats 4000000
set_option synthInstance.maxHeartbeats 4000000
set_option synthInstance.maxSize 100000
namespace K00
open PySem PySem.Spec PyProof.Rows L2 RZ Lf
def w_law_pick : OW := fun w ds C => w = drw ∧ ∃ (x : D) (p : Bool) (xs : List D), ds = [x] ∧ x.seq? = some (p, xs) ∧ 0 < xs.length ∧ xs.length < 1000000 ∧ ∀ y ∈ xs, C y drw
def r_law_pick : DS := (dRet (dOp dIx (dVar 1) (dCallO 2 w_law_take 0 (dCons (dCB dLen (dCons (dVar 1) dNil)) dNil))))
theorem seq_items {x : D} {p : Bool} {xs : List D} (h : x.seq? = some (p, xs)) : x.items? = some xs := by
  cases x <;> simp_all [D.seq?, D.items?]
theorem rv_ix {x : D} {p : Bool} {xs : List D} (h : x.seq? = some (p, xs)) {i : Nat} {y : D} (e : xs[i]? = some y) {C : D → Prop} (k : C y) : dIx x (.int i) C := by
  cases x <;> simp [D.seq?] at h
  · obtain ⟨_, rfl⟩ := h; exact rv_ixL (atI_nat e) k
  · obtain ⟨_, rfl⟩ := h; exact rv_ixT (atI_nat e) k
theorem es_take {env : Lf.Env} {de : DE} {i : Nat} {n : Int} (hw : env[i]? = some (some (.o drw))) (h : Ev de env (.int n)) (h1 : 1 ≤ n) (h2 : n < 1073741824) : Es (dCallO 2 w_law_take i (dCons de dNil)) env fun d => ∃ k : Int, 0 ≤ k ∧ k < n ∧ d = .int k :=
  es_callO hw (ea_cons h ea_nil) rfl fun C q => ⟨rfl, n, h1, h2, rfl, fun k k0 k1 => q _ ⟨k, k0, k1, rfl⟩⟩
theorem body_law_pick : ∀ (w : Ow) (as : List D) (C : D → Ow → Prop), as.length + 1 = 2 → w_law_pick w as C →
    r_law_pick (some (.o w) :: env0 (["draw", "some"].length - 2) as) { nx := fun env' => ∃ w', env'[0]? = some (some (.o w')) ∧ C .non w', rt := fun d env' => ∃ w', env'[0]? = some (some (.o w')) ∧ C d w' } := by
  rintro w as C _ ⟨rfl, x, p, xs, rfl, hx, l0, l1, h⟩
  refine st_ret (S := fun d => d ∈ xs) (es_op (A := fun d => d = x) (B := fun d => ∃ k : Int, 0 ≤ k ∧ k < (xs.length : Int) ∧ d = .int k) (ev_var (by rfl)) ?_ ?_) fun d hd => ⟨drw, by rfl, h d hd⟩
  · exact es_take (by rfl) (ev_cb (ea_cons (ev_var (by rfl)) ea_nil) fun C k => cv_len (seq_items hx) k) (by omega) (by omega)
  · rintro a b rfl ⟨k, k0, k1, rfl⟩ C q
    have hk : k.toNat < xs.length := by omega
    have e : k = (k.toNat : Int) := by omega
    rw [e]
    exact rv_ix hx (List.getElem?_eq_getElem hk) (q _ (List.getElem_mem hk))
section
variable {P : Program} {w : World} {K : PySem.W.Frag} {mg : Str → Option Value} {base : Heap}
theorem sc_law_pick : FnScope ["draw", "some"] ["draw", "some"] (defScope (top 84)) := ⟨rfl, rfl, rfl, by decide +kernel, rfl, by decide +kernel, by decide +kernel⟩
theorem ok_law_pick (T : Top P w K mg) : Fn P w K mg base 3 "_law_pick" ["draw", "some"] (OSp 2 w_law_pick) := by
  obtain ⟨fd, F⟩ := T.fn 3 (x := "_law_pick") (st := (top 84)) rfl
  have sc := sc_law_pick
  have tm : ∀ x, x ∈ frees → mg x = none := fun x hx => T.free x (mem_free hx)
  refine ⟨⟨fd, F.ok sc (fun vs H Q E h => h.len) (fun cdv A outer s H vs Q E hr h => ?d), F.bindsN fun _ _ _ _ _ _ us hl => match us, hl with | [_, _], _ => rfl⟩, T.glo "_law_pick" (mem_glo (by decide +kernel)), F.kp⟩
  exact ⟨_, PSs.nox (pss_one (ps_ret (pe_ix (show IxR _ (fun x y H Q => rIxL K x y H Q ∨ rIxT K x y H Q) from ix_any) (pv 1) (pe_fO (ok_law_take T) hr (by rfl) 0 (pa_cons (pv 0) (pa_cons (pe_callB (show CallR _ _ (rLenQ K) from cl_len) (by rfl) (tm "len" (by decide +kernel)) (by decide +kernel) (pa_cons (pv 1) pa_nil)) pa_nil))) (fun _ _ => rfl)))), os_body h (ds := r_law_pick) inferInstance body_law_pick⟩

end
end K00
set_option Elab.async false
set_option linter.all false
set_option maxRecDepth 100000
set_option maxHeartbeats 4000000
set_option synthInstance.maxHeartbeats 4000000
set_option synthInstance.maxSize 100000
namespace K00
open PySem PySem.Spec PyProof.Rows L2 RZ Lf
section
variable {K : PySem.W.Frag} {k n : Nat}
def bls (k n : Nat) : List D := (List.range n).map fun j => D.bl (decide (k = j))
theorem bls3 : bls k n ++ [.bl (decide (k = n)), .bl (decide (k = n + 1)), .bl (decide (k = n + 2))] = bls k (n + 3) := by simp [bls, List.range_succ]
theorem bls_len : (bls k n).length = n := by simp [bls]
theorem rv_b3 {C : D → Prop} (l : n ≤ 1000) (h : C (.lst (bls k (n + 3)))) : dbAdd (.lst (bls k n)) (.lst [.bl (decide (k = n)), .bl (decide (k = n + 1)), .bl (decide (k = n + 2))]) C :=
  rv_addL (by rw [bls_len]; show n + 3 ≤ 100000; omega) (by rw [bls3]; exact h)
theorem kinds_step {φ : OpD} {a b c : DE} {s : DS} {E : DEnds} (n m : Nat) (ha : ∀ env : Lf.Env, env[0]? = some (some (.d (.op φ))) → Ev a env (.bl (decide (k = n)))) (hb : ∀ env : Lf.Env, env[0]? = some (some (.d (.op φ))) → Ev b env (.bl (decide (k = n + 1))))
    (hc : ∀ env : Lf.Env, env[0]? = some (some (.d (.op φ))) → Ev c env (.bl (decide (k = n + 2)))) (l : n ≤ 1000) (em : m = n + 3) (h : s [some (.d (.op φ)), some (.d (.lst (bls k m)))] E) :
    dSeq (dAsg (dOp dbAdd (dVar 1) (dLst (dCons a (dCons b (dCons c dNil))))) (dgN 1)) s [some (.d (.op φ)), some (.d (.lst (bls k n)))] E := by
  subst em
  exact st_seq (st_asg1 (d := .lst (bls k (n + 3))) (ev_op (ev_var (by rfl)) (ev_lst (ea_cons (ha _ (by rfl)) (ea_cons (hb _ (by rfl)) (ea_cons (hc _ (by rfl)) ea_nil))) (by show 3 ≤ 100000; decide)) fun C q => rv_b3 (k := k) (n := n) l q) (by rfl) h)
end
/-- of which of all classes an error is -/
def w_law_kinds (K : PySem.W.Frag) : PW := fun ds C => ∃ (φ : OpD) (k : Nat) (x : Str), ds = [.op φ] ∧ ern.all[k]? = some x ∧ IsOf φ (He.ga K x) ∧ C (.lst (bls k 78))
def r_law_kinds (K : PySem.W.Frag) : DS := (dSeq (dAsg (dLst dNil) (dgN 1)) (dSeq (dAsg (dOp dbAdd (dVar 1) (dLst (dCons (dIsW K (.ref (He.ga K "Asked")) (dVar 0)) (dCons (dIsW K (.ref (He.ga K "BadAt")) (dVar 0)) (dCons (dIsW K (.ref (He.ga K "BadAtlas")) (dVar 0)) dNil))))) (dgN 1)) (dSeq (dAsg (dOp dbAdd (dVar 1) (dLst (dCons (dIsW K (.ref (He.ga K "BadClaim")) (dVar 0)) (dCons (dIsW K (.ref (He.ga K "BadColumns")) (dVar 0)) (dCons (dIsW K (.ref (He.ga K "BadCosts")) (dVar 0)) dNil))))) (dgN 1)) (dSeq (dAsg (dOp dbAdd (dVar 1) (dLst (dCons (dIsW K (.ref (He.ga K "BadCount")) (dVar 0)) (dCons (dIsW K (.ref (He.ga K "BadCounts")) (dVar 0)) (dCons (dIsW K (.ref (He.ga K "BadDeed")) (dVar 0)) dNil))))) (dgN 1)) (dSeq (dAsg (dOp dbAdd (dVar 1) (dLst (dCons (dIsW K (.ref (He.ga K "BadDeeds")) (dVar 0)) (dCons (dIsW K (.ref (He.ga K "BadEnds")) (dVar 0)) (dCons (dIsW K (.ref (He.ga K "BadErrand")) (dVar 0)) dNil))))) (dgN 1)) (dSeq (dAsg (dOp dbAdd (dVar 1) (dLst (dCons (dIsW K (.ref (He.ga K "BadExtra")) (dVar 0)) (dCons (dIsW K (.ref (He.ga K "BadFact")) (dVar 0)) (dCons (dIsW K (.ref (He.ga K "BadFacts")) (dVar 0)) dNil))))) (dgN 1)) (dSeq (dAsg (dOp dbAdd (dVar 1) (dLst (dCons (dIsW K (.ref (He.ga K "BadFlow")) (dVar 0)) (dCons (dIsW K (.ref (He.ga K "BadGoal")) (dVar 0)) (dCons (dIsW K (.ref (He.ga K "BadHigh")) (dVar 0)) dNil))))) (dgN 1)) (dSeq (dAsg (dOp dbAdd (dVar 1) (dLst (dCons (dIsW K (.ref (He.ga K "BadIndex")) (dVar 0)) (dCons (dIsW K (.ref (He.ga K "BadIndexes")) (dVar 0)) (dCons (dIsW K (.ref (He.ga K "BadKind")) (dVar 0)) dNil))))) (dgN 1)) (dSeq (dAsg (dOp dbAdd (dVar 1) (dLst (dCons (dIsW K (.ref (He.ga K "BadLine")) (dVar 0)) (dCons (dIsW K (.ref (He.ga K "BadLog")) (dVar 0)) (dCons (dIsW K (.ref (He.ga K "BadLot")) (dVar 0)) dNil))))) (dgN 1)) (dSeq (dAsg (dOp dbAdd (dVar 1) (dLst (dCons (dIsW K (.ref (He.ga K "BadLow")) (dVar 0)) (dCons (dIsW K (.ref (He.ga K "BadMix")) (dVar 0)) (dCons (dIsW K (.ref (He.ga K "BadNet")) (dVar 0)) dNil))))) (dgN 1)) (dSeq (dAsg (dOp dbAdd (dVar 1) (dLst (dCons (dIsW K (.ref (He.ga K "BadPair")) (dVar 0)) (dCons (dIsW K (.ref (He.ga K "BadPairs")) (dVar 0)) (dCons (dIsW K (.ref (He.ga K "BadParty")) (dVar 0)) dNil))))) (dgN 1)) (dSeq (dAsg (dOp dbAdd (dVar 1) (dLst (dCons (dIsW K (.ref (He.ga K "BadPath")) (dVar 0)) (dCons (dIsW K (.ref (He.ga K "BadPlace")) (dVar 0)) (dCons (dIsW K (.ref (He.ga K "BadPlaces")) (dVar 0)) dNil))))) (dgN 1)) (dSeq (dAsg (dOp dbAdd (dVar 1) (dLst (dCons (dIsW K (.ref (He.ga K "BadRatio")) (dVar 0)) (dCons (dIsW K (.ref (He.ga K "BadRose")) (dVar 0)) (dCons (dIsW K (.ref (He.ga K "BadRoutes")) (dVar 0)) dNil))))) (dgN 1)) (dSeq (dAsg (dOp dbAdd (dVar 1) (dLst (dCons (dIsW K (.ref (He.ga K "BadRow")) (dVar 0)) (dCons (dIsW K (.ref (He.ga K "BadRows")) (dVar 0)) (dCons (dIsW K (.ref (He.ga K "BadScale")) (dVar 0)) dNil))))) (dgN 1)) (dSeq (dAsg (dOp dbAdd (dVar 1) (dLst (dCons (dIsW K (.ref (He.ga K "BadSize")) (dVar 0)) (dCons (dIsW K (.ref (He.ga K "BadSpot")) (dVar 0)) (dCons (dIsW K (.ref (He.ga K "BadStep")) (dVar 0)) dNil))))) (dgN 1)) (dSeq (dAsg (dOp dbAdd (dVar 1) (dLst (dCons (dIsW K (.ref (He.ga K "BadSteps")) (dVar 0)) (dCons (dIsW K (.ref (He.ga K "BadTable")) (dVar 0)) (dCons (dIsW K (.ref (He.ga K "BadTables")) (dVar 0)) dNil))))) (dgN 1)) (dSeq (dAsg (dOp dbAdd (dVar 1) (dLst (dCons (dIsW K (.ref (He.ga K "BadTie")) (dVar 0)) (dCons (dIsW K (.ref (He.ga K "BadTies")) (dVar 0)) (dCons (dIsW K (.ref (He.ga K "BadTime")) (dVar 0)) dNil))))) (dgN 1)) (dSeq (dAsg (dOp dbAdd (dVar 1) (dLst (dCons (dIsW K (.ref (He.ga K "BadTimes")) (dVar 0)) (dCons (dIsW K (.ref (He.ga K "BadTrip")) (dVar 0)) (dCons (dIsW K (.ref (He.ga K "BadTrips")) (dVar 0)) dNil))))) (dgN 1)) (dSeq (dAsg (dOp dbAdd (dVar 1) (dLst (dCons (dIsW K (.ref (He.ga K "BadWalk")) (dVar 0)) (dCons (dIsW K (.ref (He.ga K "BadWay")) (dVar 0)) (dCons (dIsW K (.ref (He.ga K "BadWeights")) (dVar 0)) dNil))))) (dgN 1)) (dSeq (dAsg (dOp dbAdd (dVar 1) (dLst (dCons (dIsW K (.ref (He.ga K "BadWind")) (dVar 0)) (dCons (dIsW K (.ref (He.ga K "BadWord")) (dVar 0)) (dCons (dIsW K (.ref (He.ga K "Endless")) (dVar 0)) dNil))))) (dgN 1)) (dSeq (dAsg (dOp dbAdd (dVar 1) (dLst (dCons (dIsW K (.ref (He.ga K "Named")) (dVar 0)) (dCons (dIsW K (.ref (He.ga K "NoName")) (dVar 0)) (dCons (dIsW K (.ref (He.ga K "NoPath")) (dVar 0)) dNil))))) (dgN 1)) (dSeq (dAsg (dOp dbAdd (dVar 1) (dLst (dCons (dIsW K (.ref (He.ga K "NoQuestion")) (dVar 0)) (dCons (dIsW K (.ref (He.ga K "NotFlat")) (dVar 0)) (dCons (dIsW K (.ref (He.ga K "NotMirrored")) (dVar 0)) dNil))))) (dgN 1)) (dSeq (dAsg (dOp dbAdd (dVar 1) (dLst (dCons (dIsW K (.ref (He.ga K "NothingDone")) (dVar 0)) (dCons (dIsW K (.ref (He.ga K "NothingUndone")) (dVar 0)) (dCons (dIsW K (.ref (He.ga K "OtherPlaces")) (dVar 0)) dNil))))) (dgN 1)) (dSeq (dAsg (dOp dbAdd (dVar 1) (dLst (dCons (dIsW K (.ref (He.ga K "OtherSize")) (dVar 0)) (dCons (dIsW K (.ref (He.ga K "Quarrel")) (dVar 0)) (dCons (dIsW K (.ref (He.ga K "Unkept")) (dVar 0)) dNil))))) (dgN 1)) (dSeq (dAsg (dOp dbAdd (dVar 1) (dLst (dCons (dIsW K (.ref (He.ga K "Used")) (dVar 0)) (dCons (dIsW K (.ref (He.ga K "Windless")) (dVar 0)) (dCons (dIsW K (.ref (He.ga K "BadDrift")) (dVar 0)) dNil))))) (dgN 1)) (dSeq (dAsg (dOp dbAdd (dVar 1) (dLst (dCons (dIsW K (.ref (He.ga K "BadNumber")) (dVar 0)) (dCons (dIsW K (.ref (He.ga K "BadText")) (dVar 0)) (dCons (dIsW K (.ref (He.ga K "Failed")) (dVar 0)) dNil))))) (dgN 1)) (dSeq (dAsg (dOp dbAdd (dVar 1) (dLst (dCons (dIsW K (.ref (He.ga K "NotClosed")) (dVar 0)) (dCons (dIsW K (.ref (He.ga K "Quarrels")) (dVar 0)) (dCons (dIsW K (.ref (He.ga K "TooMany")) (dVar 0)) dNil))))) (dgN 1)) (dRet (dVar 1)))))))))))))))))))))))))))))
theorem body_law_kinds {P : Program} {w : World} {K : PySem.W.Frag} {mg : Str → Option Value} (T : Top P w K mg) : ∀ (as : List D) (C : D → Prop), as.length = 1 → w_law_kinds K as C → r_law_kinds K (env0 (["error", "found"].length - 1) as) { nx := fun _ => C .non, rt := fun d _ => C d } := by
  rintro as C _ ⟨φ, k, x, rfl, hk, ho, h⟩
  have iw : ∀ (j : Nat) (y : Str), ern.below[j]? = some y → ∀ env : Lf.Env, env[0]? = some (some (.d (.op φ))) → Ev (dIsW K (.ref (He.ga K y)) (dVar 0)) env (.bl (decide (k = j))) := fun j y hj env he =>
    ev_isW (ev_var he) ho (T.er.exc x (List.mem_of_getElem? hk)) (fun u z => z) (T.er.kit k j x y hk hj)
  unfold r_law_kinds
  refine st_seq (st_asg1 (d := .lst (bls k 0)) (ev_lst ea_nil (by show 0 ≤ 100000; decide)) (by rfl) ?_)
  refine kinds_step 0 3 (iw 0 "Asked" (by decide +kernel)) (iw 1 "BadAt" (by decide +kernel)) (iw 2 "BadAtlas" (by decide +kernel)) (by decide) (by decide) ?_
  refine kinds_step 3 6 (iw 3 "BadClaim" (by decide +kernel)) (iw 4 "BadColumns" (by decide +kernel)) (iw 5 "BadCosts" (by decide +kernel)) (by decide) (by decide) ?_
  refine kinds_step 6 9 (iw 6 "BadCount" (by decide +kernel)) (iw 7 "BadCounts" (by decide +kernel)) (iw 8 "BadDeed" (by decide +kernel)) (by decide) (by decide) ?_
  refine kinds_step 9 12 (iw 9 "BadDeeds" (by decide +kernel)) (iw 10 "BadEnds" (by decide +kernel)) (iw 11 "BadErrand" (by decide +kernel)) (by decide) (by decide) ?_
  refine kinds_step 12 15 (iw 12 "BadExtra" (by decide +kernel)) (iw 13 "BadFact" (by decide +kernel)) (iw 14 "BadFacts" (by decide +kernel)) (by decide) (by decide) ?_
  refine kinds_step 15 18 (iw 15 "BadFlow" (by decide +kernel)) (iw 16 "BadGoal" (by decide +kernel)) (iw 17 "BadHigh" (by decide +kernel)) (by decide) (by decide) ?_
  refine kinds_step 18 21 (iw 18 "BadIndex" (by decide +kernel)) (iw 19 "BadIndexes" (by decide +kernel)) (iw 20 "BadKind" (by decide +kernel)) (by decide) (by decide) ?_
  refine kinds_step 21 24 (iw 21 "BadLine" (by decide +kernel)) (iw 22 "BadLog" (by decide +kernel)) (iw 23 "BadLot" (by decide +kernel)) (by decide) (by decide) ?_
  refine kinds_step 24 27 (iw 24 "BadLow" (by decide +kernel)) (iw 25 "BadMix" (by decide +kernel)) (iw 26 "BadNet" (by decide +kernel)) (by decide) (by decide) ?_
  refine kinds_step 27 30 (iw 27 "BadPair" (by decide +kernel)) (iw 28 "BadPairs" (by decide +kernel)) (iw 29 "BadParty" (by decide +kernel)) (by decide) (by decide) ?_
  refine kinds_step 30 33 (iw 30 "BadPath" (by decide +kernel)) (iw 31 "BadPlace" (by decide +kernel)) (iw 32 "BadPlaces" (by decide +kernel)) (by decide) (by decide) ?_
  refine kinds_step 33 36 (iw 33 "BadRatio" (by decide +kernel)) (iw 34 "BadRose" (by decide +kernel)) (iw 35 "BadRoutes" (by decide +kernel)) (by decide) (by decide) ?_
  refine kinds_step 36 39 (iw 36 "BadRow" (by decide +kernel)) (iw 37 "BadRows" (by decide +kernel)) (iw 38 "BadScale" (by decide +kernel)) (by decide) (by decide) ?_
  refine kinds_step 39 42 (iw 39 "BadSize" (by decide +kernel)) (iw 40 "BadSpot" (by decide +kernel)) (iw 41 "BadStep" (by decide +kernel)) (by decide) (by decide) ?_
  refine kinds_step 42 45 (iw 42 "BadSteps" (by decide +kernel)) (iw 43 "BadTable" (by decide +kernel)) (iw 44 "BadTables" (by decide +kernel)) (by decide) (by decide) ?_
  refine kinds_step 45 48 (iw 45 "BadTie" (by decide +kernel)) (iw 46 "BadTies" (by decide +kernel)) (iw 47 "BadTime" (by decide +kernel)) (by decide) (by decide) ?_
  refine kinds_step 48 51 (iw 48 "BadTimes" (by decide +kernel)) (iw 49 "BadTrip" (by decide +kernel)) (iw 50 "BadTrips" (by decide +kernel)) (by decide) (by decide) ?_
  refine kinds_step 51 54 (iw 51 "BadWalk" (by decide +kernel)) (iw 52 "BadWay" (by decide +kernel)) (iw 53 "BadWeights" (by decide +kernel)) (by decide) (by decide) ?_
  refine kinds_step 54 57 (iw 54 "BadWind" (by decide +kernel)) (iw 55 "BadWord" (by decide +kernel)) (iw 56 "Endless" (by decide +kernel)) (by decide) (by decide) ?_
  refine kinds_step 57 60 (iw 57 "Named" (by decide +kernel)) (iw 58 "NoName" (by decide +kernel)) (iw 59 "NoPath" (by decide +kernel)) (by decide) (by decide) ?_
  refine kinds_step 60 63 (iw 60 "NoQuestion" (by decide +kernel)) (iw 61 "NotFlat" (by decide +kernel)) (iw 62 "NotMirrored" (by decide +kernel)) (by decide) (by decide) ?_
  refine kinds_step 63 66 (iw 63 "NothingDone" (by decide +kernel)) (iw 64 "NothingUndone" (by decide +kernel)) (iw 65 "OtherPlaces" (by decide +kernel)) (by decide) (by decide) ?_
  refine kinds_step 66 69 (iw 66 "OtherSize" (by decide +kernel)) (iw 67 "Quarrel" (by decide +kernel)) (iw 68 "Unkept" (by decide +kernel)) (by decide) (by decide) ?_
  refine kinds_step 69 72 (iw 69 "Used" (by decide +kernel)) (iw 70 "Windless" (by decide +kernel)) (iw 71 "BadDrift" (by decide +kernel)) (by decide) (by decide) ?_
  refine kinds_step 72 75 (iw 72 "BadNumber" (by decide +kernel)) (iw 73 "BadText" (by decide +kernel)) (iw 74 "Failed" (by decide +kernel)) (by decide) (by decide) ?_
  refine kinds_step 75 78 (iw 75 "NotClosed" (by decide +kernel)) (iw 76 "Quarrels" (by decide +kernel)) (iw 77 "TooMany" (by decide +kernel)) (by decide) (by decide) ?_
  exact st_ret1 (ev_var (by rfl)) h
section
variable {P : Program} {w : World} {K : PySem.W.Frag} {mg : Str → Option Value} {base : Heap}
theorem sc_law_kinds : FnScope ["error", "found"] ["error"] (defScope (top 85)) := ⟨rfl, rfl, rfl, by decide +kernel, rfl, by decide +kernel, by decide +kernel⟩
theorem ok_law_kinds (T : Top P w K mg) : Fn P w K mg base 1 "_law_kinds" ["error"] (PSp 1 (w_law_kinds K)) := by
  obtain ⟨fd, F⟩ := T.fn 4 (x := "_law_kinds") (st := (top 85)) rfl
  have sc := sc_law_kinds
  have tm : ∀ x, x ∈ frees → mg x = none := fun x hx => T.free x (mem_free hx)
  refine ⟨⟨fd, F.ok sc (fun vs H Q E h => h.len) (fun cdv A outer s H vs Q E hr h => ?d), F.bindsN fun _ _ _ _ _ _ us hl => match us, hl with | [_], _ => rfl⟩, T.glo "_law_kinds" (mem_glo (by decide +kernel)), F.kp⟩
  exact ⟨_, PSs.nox (pss_cons (ps_set (i := 1) sc.nd rfl (by first | exact Or.inl rfl | exact Or.inr rfl) (pe_lst pa_nil)) (pss_cons (ps_set (i := 1) sc.nd rfl (by first | exact Or.inl rfl | exact Or.inr rfl) (pe_op (show OpR _ _ (rbAdd K) from ob_add) (pv 1) (pe_lst (pa_cons (pe_isW (K := K) (pe_callB (show CallR _ _ (rIsV K) from call_isV) (by rfl) (tm "isinstance" (by decide +kernel)) (by decide +kernel) (pa_cons (pv 0) (pa_cons (pe_glob (v := .ref (He.ga K "Asked")) (by rfl) (T.glo "Asked" (mem_glo (by decide +kernel))) rfl) pa_nil)))) (pa_cons (pe_isW (K := K) (pe_callB (show CallR _ _ (rIsV K) from call_isV) (by rfl) (tm "isinstance" (by decide +kernel)) (by decide +kernel) (pa_cons (pv 0) (pa_cons (pe_glob (v := .ref (He.ga K "BadAt")) (by rfl) (T.glo "BadAt" (mem_glo (by decide +kernel))) rfl) pa_nil)))) (pa_cons (pe_isW (K := K) (pe_callB (show CallR _ _ (rIsV K) from call_isV) (by rfl) (tm "isinstance" (by decide +kernel)) (by decide +kernel) (pa_cons (pv 0) (pa_cons (pe_glob (v := .ref (He.ga K "BadAtlas")) (by rfl) (T.glo "BadAtlas" (mem_glo (by decide +kernel))) rfl) pa_nil)))) pa_nil)))))) (pss_cons (ps_set (i := 1) sc.nd rfl (by first | exact Or.inl rfl | exact Or.inr rfl) (pe_op (show OpR _ _ (rbAdd K) from ob_add) (pv 1) (pe_lst (pa_cons (pe_isW (K := K) (pe_callB (show CallR _ _ (rIsV K) from call_isV) (by rfl) (tm "isinstance" (by decide +kernel)) (by decide +kernel) (pa_cons (pv 0) (pa_cons (pe_glob (v := .ref (He.ga K "BadClaim")) (by rfl) (T.glo "BadClaim" (mem_glo (by decide +kernel))) rfl) pa_nil)))) (pa_cons (pe_isW (K := K) (pe_callB (show CallR _ _ (rIsV K) from call_isV) (by rfl) (tm "isinstance" (by decide +kernel)) (by decide +kernel) (pa_cons (pv 0) (pa_cons (pe_glob (v := .ref (He.ga K "BadColumns")) (by rfl) (T.glo "BadColumns" (mem_glo (by decide +kernel))) rfl) pa_nil)))) (pa_cons (pe_isW (K := K) (pe_callB (show CallR _ _ (rIsV K) from call_isV) (by rfl) (tm "isinstance" (by decide +kernel)) (by decide +kernel) (pa_cons (pv 0) (pa_cons (pe_glob (v := .ref (He.ga K "BadCosts")) (by rfl) (T.glo "BadCosts" (mem_glo (by decide +kernel))) rfl) pa_nil)))) pa_nil)))))) (pss_cons (ps_set (i := 1) sc.nd rfl (by first | exact Or.inl rfl | exact Or.inr rfl) (pe_op (show OpR _ _ (rbAdd K) from ob_add) (pv 1) (pe_lst (pa_cons (pe_isW (K := K) (pe_callB (show CallR _ _ (rIsV K) from call_isV) (by rfl) (tm "isinstance" (by decide +kernel)) (by decide +kernel) (pa_cons (pv 0) (pa_cons (pe_glob (v := .ref (He.ga K "BadCount")) (by rfl) (T.glo "BadCount" (mem_glo (by decide +kernel))) rfl) pa_nil)))) (pa_cons (pe_isW (K := K) (pe_callB (show CallR _ _ (rIsV K) from call_isV) (by rfl) (tm "isinstance" (by decide +kernel)) (by decide +kernel) (pa_cons (pv 0) (pa_cons (pe_glob (v := .ref (He.ga K "BadCounts")) (by rfl) (T.glo "BadCounts" (mem_glo (by decide +kernel))) rfl) pa_nil)))) (pa_cons (pe_isW (K := K) (pe_callB (show CallR _ _ (rIsV K) from call_isV) (by rfl) (tm "isinstance" (by decide +kernel)) (by decide +kernel) (pa_cons (pv 0) (pa_cons (pe_glob (v := .ref (He.ga K "BadDeed")) (by rfl) (T.glo "BadDeed" (mem_glo (by decide +kernel))) rfl) pa_nil)))) pa_nil)))))) (pss_cons (ps_set (i := 1) sc.nd rfl (by first | exact Or.inl rfl | exact Or.inr rfl) (pe_op (show OpR _ _ (rbAdd K) from ob_add) (pv 1) (pe_lst (pa_cons (pe_isW (K := K) (pe_callB (show CallR _ _ (rIsV K) from call_isV) (by rfl) (tm "isinstance" (by decide +kernel)) (by decide +kernel) (pa_cons (pv 0) (pa_cons (pe_glob (v := .ref (He.ga K "BadDeeds")) (by rfl) (T.glo "BadDeeds" (mem_glo (by decide +kernel))) rfl) pa_nil)))) (pa_cons (pe_isW (K := K) (pe_callB (show CallR _ _ (rIsV K) from call_isV) (by rfl) (tm "isinstance" (by decide +kernel)) (by decide +kernel) (pa_cons (pv 0) (pa_cons (pe_glob (v := .ref (He.ga K "BadEnds")) (by rfl) (T.glo "BadEnds" (mem_glo (by decide +kernel))) rfl) pa_nil)))) (pa_cons (pe_isW (K := K) (pe_callB (show CallR _ _ (rIsV K) from call_isV) (by rfl) (tm "isinstance" (by decide +kernel)) (by decide +kernel) (pa_cons (pv 0) (pa_cons (pe_glob (v := .ref (He.ga K "BadErrand")) (by rfl) (T.glo "BadErrand" (mem_glo (by decide +kernel))) rfl) pa_nil)))) pa_nil)))))) (pss_cons (ps_set (i := 1) sc.nd rfl (by first | exact Or.inl rfl | exact Or.inr rfl) (pe_op (show OpR _ _ (rbAdd K) from ob_add) (pv 1) (pe_lst (pa_cons (pe_isW (K := K) (pe_callB (show CallR _ _ (rIsV K) from call_isV) (by rfl) (tm "isinstance" (by decide +kernel)) (by decide +kernel) (pa_cons (pv 0) (pa_cons (pe_glob (v := .ref (He.ga K "BadExtra")) (by rfl) (T.glo "BadExtra" (mem_glo (by decide +kernel))) rfl) pa_nil)))) (pa_cons (pe_isW (K := K) (pe_callB (show CallR _ _ (rIsV K) from call_isV) (by rfl) (tm "isinstance" (by decide +kernel)) (by decide +kernel) (pa_cons (pv 0) (pa_cons (pe_glob (v := .ref (He.ga K "BadFact")) (by rfl) (T.glo "BadFact" (mem_glo (by decide +kernel))) rfl) pa_nil)))) (pa_cons (pe_isW (K := K) (pe_callB (show CallR _ _ (rIsV K) from call_isV) (by rfl) (tm "isinstance" (by decide +kernel)) (by decide +kernel) (pa_cons (pv 0) (pa_cons (pe_glob (v := .ref (He.ga K "BadFacts")) (by rfl) (T.glo "BadFacts" (mem_glo (by decide +kernel))) rfl) pa_nil)))) pa_nil)))))) (pss_cons (ps_set (i := 1) sc.nd rfl (by first | exact Or.inl rfl | exact Or.inr rfl) (pe_op (show OpR _ _ (rbAdd K) from ob_add) (pv 1) (pe_lst (pa_cons (pe_isW (K := K) (pe_callB (show CallR _ _ (rIsV K) from call_isV) (by rfl) (tm "isinstance" (by decide +kernel)) (by decide +kernel) (pa_cons (pv 0) (pa_cons (pe_glob (v := .ref (He.ga K "BadFlow")) (by rfl) (T.glo "BadFlow" (mem_glo (by decide +kernel))) rfl) pa_nil)))) (pa_cons (pe_isW (K := K) (pe_callB (show CallR _ _ (rIsV K) from call_isV) (by rfl) (tm "isinstance" (by decide +kernel)) (by decide +kernel) (pa_cons (pv 0) (pa_cons (pe_glob (v := .ref (He.ga K "BadGoal")) (by rfl) (T.glo "BadGoal" (mem_glo (by decide +kernel))) rfl) pa_nil)))) (pa_cons (pe_isW (K := K) (pe_callB (show CallR _ _ (rIsV K) from call_isV) (by rfl) (tm "isinstance" (by decide +kernel)) (by decide +kernel) (pa_cons (pv 0) (pa_cons (pe_glob (v := .ref (He.ga K "BadHigh")) (by rfl) (T.glo "BadHigh" (mem_glo (by decide +kernel))) rfl) pa_nil)))) pa_nil)))))) (pss_cons (ps_set (i := 1) sc.nd rfl (by first | exact Or.inl rfl | exact Or.inr rfl) (pe_op (show OpR _ _ (rbAdd K) from ob_add) (pv 1) (pe_lst (pa_cons (pe_isW (K := K) (pe_callB (show CallR _ _ (rIsV K) from call_isV) (by rfl) (tm "isinstance" (by decide +kernel)) (by decide +kernel) (pa_cons (pv 0) (pa_cons (pe_glob (v := .ref (He.ga K "BadIndex")) (by rfl) (T.glo "BadIndex" (mem_glo (by decide +kernel))) rfl) pa_nil)))) (pa_cons (pe_isW (K := K) (pe_callB (show CallR _ _ (rIsV K) from call_isV) (by rfl) (tm "isinstance" (by decide +kernel)) (by decide +kernel) (pa_cons (pv 0) (pa_cons (pe_glob (v := .ref (He.ga K "BadIndexes")) (by rfl) (T.glo "BadIndexes" (mem_glo (by decide +kernel))) rfl) pa_nil)))) (pa_cons (pe_isW (K := K) (pe_callB (show CallR _ _ (rIsV K) from call_isV) (by rfl) (tm "isinstance" (by decide +kernel)) (by decide +kernel) (pa_cons (pv 0) (pa_cons (pe_glob (v := .ref (He.ga K "BadKind")) (by rfl) (T.glo "BadKind" (mem_glo (by decide +kernel))) rfl) pa_nil)))) pa_nil)))))) (pss_cons (ps_set (i := 1) sc.nd rfl (by first | exact Or.inl rfl | exact Or.inr rfl) (pe_op (show OpR _ _ (rbAdd K) from ob_add) (pv 1) (pe_lst (pa_cons (pe_isW (K := K) (pe_callB (show CallR _ _ (rIsV K) from call_isV) (by rfl) (tm "isinstance" (by decide +kernel)) (by decide +kernel) (pa_cons (pv 0) (pa_cons (pe_glob (v := .ref (He.ga K "BadLine")) (by rfl) (T.glo "BadLine" (mem_glo (by decide +kernel))) rfl) pa_nil)))) (pa_cons (pe_isW (K := K) (pe_callB (show CallR _ _ (rIsV K) from call_isV) (by rfl) (tm "isinstance" (by decide +kernel)) (by decide +kernel) (pa_cons (pv 0) (pa_cons (pe_glob (v := .ref (He.ga K "BadLog")) (by rfl) (T.glo "BadLog" (mem_glo (by decide +kernel))) rfl) pa_nil)))) (pa_cons (pe_isW (K := K) (pe_callB (show CallR _ _ (rIsV K) from call_isV) (by rfl) (tm "isinstance" (by decide +kernel)) (by decide +kernel) (pa_cons (pv 0) (pa_cons (pe_glob (v := .ref (He.ga K "BadLot")) (by rfl) (T.glo "BadLot" (mem_glo (by decide +kernel))) rfl) pa_nil)))) pa_nil)))))) (pss_cons (ps_set (i := 1) sc.nd rfl (by first | exact Or.inl rfl | exact Or.inr rfl) (pe_op (show OpR _ _ (rbAdd K) from ob_add) (pv 1) (pe_lst (pa_cons (pe_isW (K := K) (pe_callB (show CallR _ _ (rIsV K) from call_isV) (by rfl) (tm "isinstance" (by decide +kernel)) (by decide +kernel) (pa_cons (pv 0) (pa_cons (pe_glob (v := .ref (He.ga K "BadLow")) (by rfl) (T.glo "BadLow" (mem_glo (by decide +kernel))) rfl) pa_nil)))) (pa_cons (pe_isW (K := K) (pe_callB (show CallR _ _ (rIsV K) from call_isV) (by rfl) (tm "isinstance" (by decide +kernel)) (by decide +kernel) (pa_cons (pv 0) (pa_cons (pe_glob (v := .ref (He.ga K "BadMix")) (by rfl) (T.glo "BadMix" (mem_glo (by decide +kernel))) rfl) pa_nil)))) (pa_cons (pe_isW (K := K) (pe_callB (show CallR _ _ (rIsV K) from call_isV) (by rfl) (tm "isinstance" (by decide +kernel)) (by decide +kernel) (pa_cons (pv 0) (pa_cons (pe_glob (v := .ref (He.ga K "BadNet")) (by rfl) (T.glo "BadNet" (mem_glo (by decide +kernel))) rfl) pa_nil)))) pa_nil)))))) (pss_cons (ps_set (i := 1) sc.nd rfl (by first | exact Or.inl rfl | exact Or.inr rfl) (pe_op (show OpR _ _ (rbAdd K) from ob_add) (pv 1) (pe_lst (pa_cons (pe_isW (K := K) (pe_callB (show CallR _ _ (rIsV K) from call_isV) (by rfl) (tm "isinstance" (by decide +kernel)) (by decide +kernel) (pa_cons (pv 0) (pa_cons (pe_glob (v := .ref (He.ga K "BadPair")) (by rfl) (T.glo "BadPair" (mem_glo (by decide +kernel))) rfl) pa_nil)))) (pa_cons (pe_isW (K := K) (pe_callB (show CallR _ _ (rIsV K) from call_isV) (by rfl) (tm "isinstance" (by decide +kernel)) (by decide +kernel) (pa_cons (pv 0) (pa_cons (pe_glob (v := .ref (He.ga K "BadPairs")) (by rfl) (T.glo "BadPairs" (mem_glo (by decide +kernel))) rfl) pa_nil)))) (pa_cons (pe_isW (K := K) (pe_callB (show CallR _ _ (rIsV K) from call_isV) (by rfl) (tm "isinstance" (by decide +kernel)) (by decide +kernel) (pa_cons (pv 0) (pa_cons (pe_glob (v := .ref (He.ga K "BadParty")) (by rfl) (T.glo "BadParty" (mem_glo (by decide +kernel))) rfl) pa_nil)))) pa_nil)))))) (pss_cons (ps_set (i := 1) sc.nd rfl (by first | exact Or.inl rfl | exact Or.inr rfl) (pe_op (show OpR _ _ (rbAdd K) from ob_add) (pv 1) (pe_lst (pa_cons (pe_isW (K := K) (pe_callB (show CallR _ _ (rIsV K) from call_isV) (by rfl) (tm "isinstance" (by decide +kernel)) (by decide +kernel) (pa_cons (pv 0) (pa_cons (pe_glob (v := .ref (He.ga K "BadPath")) (by rfl) (T.glo "BadPath" (mem_glo (by decide +kernel))) rfl) pa_nil)))) (pa_cons (pe_isW (K := K) (pe_callB (show CallR _ _ (rIsV K) from call_isV) (by rfl) (tm "isinstance" (by decide +kernel)) (by decide +kernel) (pa_cons (pv 0) (pa_cons (pe_glob (v := .ref (He.ga K "BadPlace")) (by rfl) (T.glo "BadPlace" (mem_glo (by decide +kernel))) rfl) pa_nil)))) (pa_cons (pe_isW (K := K) (pe_callB (show CallR _ _ (rIsV K) from call_isV) (by rfl) (tm "isinstance" (by decide +kernel)) (by decide +kernel) (pa_cons (pv 0) (pa_cons (pe_glob (v := .ref (He.ga K "BadPlaces")) (by rfl) (T.glo "BadPlaces" (mem_glo (by decide +kernel))) rfl) pa_nil)))) pa_nil)))))) (pss_cons (ps_set (i := 1) sc.nd rfl (by first | exact Or.inl rfl | exact Or.inr rfl) (pe_op (show OpR _ _ (rbAdd K) from ob_add) (pv 1) (pe_lst (pa_cons (pe_isW (K := K) (pe_callB (show CallR _ _ (rIsV K) from call_isV) (by rfl) (tm "isinstance" (by decide +kernel)) (by decide +kernel) (pa_cons (pv 0) (pa_cons (pe_glob (v := .ref (He.ga K "BadRatio")) (by rfl) (T.glo "BadRatio" (mem_glo (by decide +kernel))) rfl) pa_nil)))) (pa_cons (pe_isW (K := K) (pe_callB (show CallR _ _ (rIsV K) from call_isV) (by rfl) (tm "isinstance" (by decide +kernel)) (by decide +kernel) (pa_cons (pv 0) (pa_cons (pe_glob (v := .ref (He.ga K "BadRose")) (by rfl) (T.glo "BadRose" (mem_glo (by decide +kernel))) rfl) pa_nil)))) (pa_cons (pe_isW (K := K) (pe_callB (show CallR _ _ (rIsV K) from call_isV) (by rfl) (tm "isinstance" (by decide +kernel)) (by decide +kernel) (pa_cons (pv 0) (pa_cons (pe_glob (v := .ref (He.ga K "BadRoutes")) (by rfl) (T.glo "BadRoutes" (mem_glo (by decide +kernel))) rfl) pa_nil)))) pa_nil)))))) (pss_cons (ps_set (i := 1) sc.nd rfl (by first | exact Or.inl rfl | exact Or.inr rfl) (pe_op (show OpR _ _ (rbAdd K) from ob_add) (pv 1) (pe_lst (pa_cons (pe_isW (K := K) (pe_callB (show CallR _ _ (rIsV K) from call_isV) (by rfl) (tm "isinstance" (by decide +kernel)) (by decide +kernel) (pa_cons (pv 0) (pa_cons (pe_glob (v := .ref (He.ga K "BadRow")) (by rfl) (T.glo "BadRow" (mem_glo (by decide +kernel))) rfl) pa_nil)))) (pa_cons (pe_isW (K := K) (pe_callB (show CallR _ _ (rIsV K) from call_isV) (by rfl) (tm "isinstance" (by decide +kernel)) (by decide +kernel) (pa_cons (pv 0) (pa_cons (pe_glob (v := .ref (He.ga K "BadRows")) (by rfl) (T.glo "BadRows" (mem_glo (by decide +kernel))) rfl) pa_nil)))) (pa_cons (pe_isW (K := K) (pe_callB (show CallR _ _ (rIsV K) from call_isV) (by rfl) (tm "isinstance" (by decide +kernel)) (by decide +kernel) (pa_cons (pv 0) (pa_cons (pe_glob (v := .ref (He.ga K "BadScale")) (by rfl) (T.glo "BadScale" (mem_glo (by decide +kernel))) rfl) pa_nil)))) pa_nil)))))) (pss_cons (ps_set (i := 1) sc.nd rfl (by first | exact Or.inl rfl | exact Or.inr rfl) (pe_op (show OpR _ _ (rbAdd K) from ob_add) (pv 1) (pe_lst (pa_cons (pe_isW (K := K) (pe_callB (show CallR _ _ (rIsV K) from call_isV) (by rfl) (tm "isinstance" (by decide +kernel)) (by decide +kernel) (pa_cons (pv 0) (pa_cons (pe_glob (v := .ref (He.ga K "BadSize")) (by rfl) (T.glo "BadSize" (mem_glo (by decide +kernel))) rfl) pa_nil)))) (pa_cons (pe_isW (K := K) (pe_callB (show CallR _ _ (rIsV K) from call_isV) (by rfl) (tm "isinstance" (by decide +kernel)) (by decide +kernel) (pa_cons (pv 0) (pa_cons (pe_glob (v := .ref (He.ga K "BadSpot")) (by rfl) (T.glo "BadSpot" (mem_glo (by decide +kernel))) rfl) pa_nil)))) (pa_cons (pe_isW (K := K) (pe_callB (show CallR _ _ (rIsV K) from call_isV) (by rfl) (tm "isinstance" (by decide +kernel)) (by decide +kernel) (pa_cons (pv 0) (pa_cons (pe_glob (v := .ref (He.ga K "BadStep")) (by rfl) (T.glo "BadStep" (mem_glo (by decide +kernel))) rfl) pa_nil)))) pa_nil)))))) (pss_cons (ps_set (i := 1) sc.nd rfl (by first | exact Or.inl rfl | exact Or.inr rfl) (pe_op (show OpR _ _ (rbAdd K) from ob_add) (pv 1) (pe_lst (pa_cons (pe_isW (K := K) (pe_callB (show CallR _ _ (rIsV K) from call_isV) (by rfl) (tm "isinstance" (by decide +kernel)) (by decide +kernel) (pa_cons (pv 0) (pa_cons (pe_glob (v := .ref (He.ga K "BadSteps")) (by rfl) (T.glo "BadSteps" (mem_glo (by decide +kernel))) rfl) pa_nil)))) (pa_cons (pe_isW (K := K) (pe_callB (show CallR _ _ (rIsV K) from call_isV) (by rfl) (tm "isinstance" (by decide +kernel)) (by decide +kernel) (pa_cons (pv 0) (pa_cons (pe_glob (v := .ref (He.ga K "BadTable")) (by rfl) (T.glo "BadTable" (mem_glo (by decide +kernel))) rfl) pa_nil)))) (pa_cons (pe_isW (K := K) (pe_callB (show CallR _ _ (rIsV K) from call_isV) (by rfl) (tm "isinstance" (by decide +kernel)) (by decide +kernel) (pa_cons (pv 0) (pa_cons (pe_glob (v := .ref (He.ga K "BadTables")) (by rfl) (T.glo "BadTables" (mem_glo (by decide +kernel))) rfl) pa_nil)))) pa_nil)))))) (pss_cons (ps_set (i := 1) sc.nd rfl (by first | exact Or.inl rfl | exact Or.inr rfl) (pe_op (show OpR _ _ (rbAdd K) from ob_add) (pv 1) (pe_lst (pa_cons (pe_isW (K := K) (pe_callB (show CallR _ _ (rIsV K) from call_isV) (by rfl) (tm "isinstance" (by decide +kernel)) (by decide +kernel) (pa_cons (pv 0) (pa_cons (pe_glob (v := .ref (He.ga K "BadTie")) (by rfl) (T.glo "BadTie" (mem_glo (by decide +kernel))) rfl) pa_nil)))) (pa_cons (pe_isW (K := K) (pe_callB (show CallR _ _ (rIsV K) from call_isV) (by rfl) (tm "isinstance" (by decide +kernel)) (by decide +kernel) (pa_cons (pv 0) (pa_cons (pe_glob (v := .ref (He.ga K "BadTies")) (by rfl) (T.glo "BadTies" (mem_glo (by decide +kernel))) rfl) pa_nil)))) (pa_cons (pe_isW (K := K) (pe_callB (show CallR _ _ (rIsV K) from call_isV) (by rfl) (tm "isinstance" (by decide +kernel)) (by decide +kernel) (pa_cons (pv 0) (pa_cons (pe_glob (v := .ref (He.ga K "BadTime")) (by rfl) (T.glo "BadTime" (mem_glo (by decide +kernel))) rfl) pa_nil)))) pa_nil)))))) (pss_cons (ps_set (i := 1) sc.nd rfl (by first | exact Or.inl rfl | exact Or.inr rfl) (pe_op (show OpR _ _ (rbAdd K) from ob_add) (pv 1) (pe_lst (pa_cons (pe_isW (K := K) (pe_callB (show CallR _ _ (rIsV K) from call_isV) (by rfl) (tm "isinstance" (by decide +kernel)) (by decide +kernel) (pa_cons (pv 0) (pa_cons (pe_glob (v := .ref (He.ga K "BadTimes")) (by rfl) (T.glo "BadTimes" (mem_glo (by decide +kernel))) rfl) pa_nil)))) (pa_cons (pe_isW (K := K) (pe_callB (show CallR _ _ (rIsV K) from call_isV) (by rfl) (tm "isinstance" (by decide +kernel)) (by decide +kernel) (pa_cons (pv 0) (pa_cons (pe_glob (v := .ref (He.ga K "BadTrip")) (by rfl) (T.glo "BadTrip" (mem_glo (by decide +kernel))) rfl) pa_nil)))) (pa_cons (pe_isW (K := K) (pe_callB (show CallR _ _ (rIsV K) from call_isV) (by rfl) (tm "isinstance" (by decide +kernel)) (by decide +kernel) (pa_cons (pv 0) (pa_cons (pe_glob (v := .ref (He.ga K "BadTrips")) (by rfl) (T.glo "BadTrips" (mem_glo (by decide +kernel))) rfl) pa_nil)))) pa_nil)))))) (pss_cons (ps_set (i := 1) sc.nd rfl (by first | exact Or.inl rfl | exact Or.inr rfl) (pe_op (show OpR _ _ (rbAdd K) from ob_add) (pv 1) (pe_lst (pa_cons (pe_isW (K := K) (pe_callB (show CallR _ _ (rIsV K) from call_isV) (by rfl) (tm "isinstance" (by decide +kernel)) (by decide +kernel) (pa_cons (pv 0) (pa_cons (pe_glob (v := .ref (He.ga K "BadWalk")) (by rfl) (T.glo "BadWalk" (mem_glo (by decide +kernel))) rfl) pa_nil)))) (pa_cons (pe_isW (K := K) (pe_callB (show CallR _ _ (rIsV K) from call_isV) (by rfl) (tm "isinstance" (by decide +kernel)) (by decide +kernel) (pa_cons (pv 0) (pa_cons (pe_glob (v := .ref (He.ga K "BadWay")) (by rfl) (T.glo "BadWay" (mem_glo (by decide +kernel))) rfl) pa_nil)))) (pa_cons (pe_isW (K := K) (pe_callB (show CallR _ _ (rIsV K) from call_isV) (by rfl) (tm "isinstance" (by decide +kernel)) (by decide +kernel) (pa_cons (pv 0) (pa_cons (pe_glob (v := .ref (He.ga K "BadWeights")) (by rfl) (T.glo "BadWeights" (mem_glo (by decide +kernel))) rfl) pa_nil)))) pa_nil)))))) (pss_cons (ps_set (i := 1) sc.nd rfl (by first | exact Or.inl rfl | exact Or.inr rfl) (pe_op (show OpR _ _ (rbAdd K) from ob_add) (pv 1) (pe_lst (pa_cons (pe_isW (K := K) (pe_callB (show CallR _ _ (rIsV K) from call_isV) (by rfl) (tm "isinstance" (by decide +kernel)) (by decide +kernel) (pa_cons (pv 0) (pa_cons (pe_glob (v := .ref (He.ga K "BadWind")) (by rfl) (T.glo "BadWind" (mem_glo (by decide +kernel))) rfl) pa_nil)))) (pa_cons (pe_isW (K := K) (pe_callB (show CallR _ _ (rIsV K) from call_isV) (by rfl) (tm "isinstance" (by decide +kernel)) (by decide +kernel) (pa_cons (pv 0) (pa_cons (pe_glob (v := .ref (He.ga K "BadWord")) (by rfl) (T.glo "BadWord" (mem_glo (by decide +kernel))) rfl) pa_nil)))) (pa_cons (pe_isW (K := K) (pe_callB (show CallR _ _ (rIsV K) from call_isV) (by rfl) (tm "isinstance" (by decide +kernel)) (by decide +kernel) (pa_cons (pv 0) (pa_cons (pe_glob (v := .ref (He.ga K "Endless")) (by rfl) (T.glo "Endless" (mem_glo (by decide +kernel))) rfl) pa_nil)))) pa_nil)))))) (pss_cons (ps_set (i := 1) sc.nd rfl (by first | exact Or.inl rfl | exact Or.inr rfl) (pe_op (show OpR _ _ (rbAdd K) from ob_add) (pv 1) (pe_lst (pa_cons (pe_isW (K := K) (pe_callB (show CallR _ _ (rIsV K) from call_isV) (by rfl) (tm "isinstance" (by decide +kernel)) (by decide +kernel) (pa_cons (pv 0) (pa_cons (pe_glob (v := .ref (He.ga K "Named")) (by rfl) (T.glo "Named" (mem_glo (by decide +kernel))) rfl) pa_nil)))) (pa_cons (pe_isW (K := K) (pe_callB (show CallR _ _ (rIsV K) from call_isV) (by rfl) (tm "isinstance" (by decide +kernel)) (by decide +kernel) (pa_cons (pv 0) (pa_cons (pe_glob (v := .ref (He.ga K "NoName")) (by rfl) (T.glo "NoName" (mem_glo (by decide +kernel))) rfl) pa_nil)))) (pa_cons (pe_isW (K := K) (pe_callB (show CallR _ _ (rIsV K) from call_isV) (by rfl) (tm "isinstance" (by decide +kernel)) (by decide +kernel) (pa_cons (pv 0) (pa_cons (pe_glob (v := .ref (He.ga K "NoPath")) (by rfl) (T.glo "NoPath" (mem_glo (by decide +kernel))) rfl) pa_nil)))) pa_nil)))))) (pss_cons (ps_set (i := 1) sc.nd rfl (by first | exact Or.inl rfl | exact Or.inr rfl) (pe_op (show OpR _ _ (rbAdd K) from ob_add) (pv 1) (pe_lst (pa_cons (pe_isW (K := K) (pe_callB (show CallR _ _ (rIsV K) from call_isV) (by rfl) (tm "isinstance" (by decide +kernel)) (by decide +kernel) (pa_cons (pv 0) (pa_cons (pe_glob (v := .ref (He.ga K "NoQuestion")) (by rfl) (T.glo "NoQuestion" (mem_glo (by decide +kernel))) rfl) pa_nil)))) (pa_cons (pe_isW (K := K) (pe_callB (show CallR _ _ (rIsV K) from call_isV) (by rfl) (tm "isinstance" (by decide +kernel)) (by decide +kernel) (pa_cons (pv 0) (pa_cons (pe_glob (v := .ref (He.ga K "NotFlat")) (by rfl) (T.glo "NotFlat" (mem_glo (by decide +kernel))) rfl) pa_nil)))) (pa_cons (pe_isW (K := K) (pe_callB (show CallR _ _ (rIsV K) from call_isV) (by rfl) (tm "isinstance" (by decide +kernel)) (by decide +kernel) (pa_cons (pv 0) (pa_cons (pe_glob (v := .ref (He.ga K "NotMirrored")) (by rfl) (T.glo "NotMirrored" (mem_glo (by decide +kernel))) rfl) pa_nil)))) pa_nil)))))) (pss_cons (ps_set (i := 1) sc.nd rfl (by first | exact Or.inl rfl | exact Or.inr rfl) (pe_op (show OpR _ _ (rbAdd K) from ob_add) (pv 1) (pe_lst (pa_cons (pe_isW (K := K) (pe_callB (show CallR _ _ (rIsV K) from call_isV) (by rfl) (tm "isinstance" (by decide +kernel)) (by decide +kernel) (pa_cons (pv 0) (pa_cons (pe_glob (v := .ref (He.ga K "NothingDone")) (by rfl) (T.glo "NothingDone" (mem_glo (by decide +kernel))) rfl) pa_nil)))) (pa_cons (pe_isW (K := K) (pe_callB (show CallR _ _ (rIsV K) from call_isV) (by rfl) (tm "isinstance" (by decide +kernel)) (by decide +kernel) (pa_cons (pv 0) (pa_cons (pe_glob (v := .ref (He.ga K "NothingUndone")) (by rfl) (T.glo "NothingUndone" (mem_glo (by decide +kernel))) rfl) pa_nil)))) (pa_cons (pe_isW (K := K) (pe_callB (show CallR _ _ (rIsV K) from call_isV) (by rfl) (tm "isinstance" (by decide +kernel)) (by decide +kernel) (pa_cons (pv 0) (pa_cons (pe_glob (v := .ref (He.ga K "OtherPlaces")) (by rfl) (T.glo "OtherPlaces" (mem_glo (by decide +kernel))) rfl) pa_nil)))) pa_nil)))))) (pss_cons (ps_set (i := 1) sc.nd rfl (by first | exact Or.inl rfl | exact Or.inr rfl) (pe_op (show OpR _ _ (rbAdd K) from ob_add) (pv 1) (pe_lst (pa_cons (pe_isW (K := K) (pe_callB (show CallR _ _ (rIsV K) from call_isV) (by rfl) (tm "isinstance" (by decide +kernel)) (by decide +kernel) (pa_cons (pv 0) (pa_cons (pe_glob (v := .ref (He.ga K "OtherSize")) (by rfl) (T.glo "OtherSize" (mem_glo (by decide +kernel))) rfl) pa_nil)))) (pa_cons (pe_isW (K := K) (pe_callB (show CallR _ _ (rIsV K) from call_isV) (by rfl) (tm "isinstance" (by decide +kernel)) (by decide +kernel) (pa_cons (pv 0) (pa_cons (pe_glob (v := .ref (He.ga K "Quarrel")) (by rfl) (T.glo "Quarrel" (mem_glo (by decide +kernel))) rfl) pa_nil)))) (pa_cons (pe_isW (K := K) (pe_callB (show CallR _ _ (rIsV K) from call_isV) (by rfl) (tm "isinstance" (by decide +kernel)) (by decide +kernel) (pa_cons (pv 0) (pa_cons (pe_glob (v := .ref (He.ga K "Unkept")) (by rfl) (T.glo "Unkept" (mem_glo (by decide +kernel))) rfl) pa_nil)))) pa_nil)))))) (pss_cons (ps_set (i := 1) sc.nd rfl (by first | exact Or.inl rfl | exact Or.inr rfl) (pe_op (show OpR _ _ (rbAdd K) from ob_add) (pv 1) (pe_lst (pa_cons (pe_isW (K := K) (pe_callB (show CallR _ _ (rIsV K) from call_isV) (by rfl) (tm "isinstance" (by decide +kernel)) (by decide +kernel) (pa_cons (pv 0) (pa_cons (pe_glob (v := .ref (He.ga K "Used")) (by rfl) (T.glo "Used" (mem_glo (by decide +kernel))) rfl) pa_nil)))) (pa_cons (pe_isW (K := K) (pe_callB (show CallR _ _ (rIsV K) from call_isV) (by rfl) (tm "isinstance" (by decide +kernel)) (by decide +kernel) (pa_cons (pv 0) (pa_cons (pe_glob (v := .ref (He.ga K "Windless")) (by rfl) (T.glo "Windless" (mem_glo (by decide +kernel))) rfl) pa_nil)))) (pa_cons (pe_isW (K := K) (pe_callB (show CallR _ _ (rIsV K) from call_isV) (by rfl) (tm "isinstance" (by decide +kernel)) (by decide +kernel) (pa_cons (pv 0) (pa_cons (pe_glob (v := .ref (He.ga K "BadDrift")) (by rfl) (T.glo "BadDrift" (mem_glo (by decide +kernel))) rfl) pa_nil)))) pa_nil)))))) (pss_cons (ps_set (i := 1) sc.nd rfl (by first | exact Or.inl rfl | exact Or.inr rfl) (pe_op (show OpR _ _ (rbAdd K) from ob_add) (pv 1) (pe_lst (pa_cons (pe_isW (K := K) (pe_callB (show CallR _ _ (rIsV K) from call_isV) (by rfl) (tm "isinstance" (by decide +kernel)) (by decide +kernel) (pa_cons (pv 0) (pa_cons (pe_glob (v := .ref (He.ga K "BadNumber")) (by rfl) (T.glo "BadNumber" (mem_glo (by decide +kernel))) rfl) pa_nil)))) (pa_cons (pe_isW (K := K) (pe_callB (show CallR _ _ (rIsV K) from call_isV) (by rfl) (tm "isinstance" (by decide +kernel)) (by decide +kernel) (pa_cons (pv 0) (pa_cons (pe_glob (v := .ref (He.ga K "BadText")) (by rfl) (T.glo "BadText" (mem_glo (by decide +kernel))) rfl) pa_nil)))) (pa_cons (pe_isW (K := K) (pe_callB (show CallR _ _ (rIsV K) from call_isV) (by rfl) (tm "isinstance" (by decide +kernel)) (by decide +kernel) (pa_cons (pv 0) (pa_cons (pe_glob (v := .ref (He.ga K "Failed")) (by rfl) (T.glo "Failed" (mem_glo (by decide +kernel))) rfl) pa_nil)))) pa_nil)))))) (pss_cons (ps_set (i := 1) sc.nd rfl (by first | exact Or.inl rfl | exact Or.inr rfl) (pe_op (show OpR _ _ (rbAdd K) from ob_add) (pv 1) (pe_lst (pa_cons (pe_isW (K := K) (pe_callB (show CallR _ _ (rIsV K) from call_isV) (by rfl) (tm "isinstance" (by decide +kernel)) (by decide +kernel) (pa_cons (pv 0) (pa_cons (pe_glob (v := .ref (He.ga K "NotClosed")) (by rfl) (T.glo "NotClosed" (mem_glo (by decide +kernel))) rfl) pa_nil)))) (pa_cons (pe_isW (K := K) (pe_callB (show CallR _ _ (rIsV K) from call_isV) (by rfl) (tm "isinstance" (by decide +kernel)) (by decide +kernel) (pa_cons (pv 0) (pa_cons (pe_glob (v := .ref (He.ga K "Quarrels")) (by rfl) (T.glo "Quarrels" (mem_glo (by decide +kernel))) rfl) pa_nil)))) (pa_cons (pe_isW (K := K) (pe_callB (show CallR _ _ (rIsV K) from call_isV) (by rfl) (tm "isinstance" (by decide +kernel)) (by decide +kernel) (pa_cons (pv 0) (pa_cons (pe_glob (v := .ref (He.ga K "TooMany")) (by rfl) (T.glo "TooMany" (mem_glo (by decide +kernel))) rfl) pa_nil)))) pa_nil)))))) (pss_one (ps_ret (pv 1)))))))))))))))))))))))))))))), ps_body h (ds := (r_law_kinds K)) inferInstance (body_law_kinds T)⟩

end
end K00
set_option Elab.async false
set_option linter.all false
set_option maxRecDepth 100000
set_option maxHeartbeats 4000000
set_option synthInstance.maxHeartbeats 4000000
set_option synthInstance.maxSize 100000
namespace K00
open PySem PySem.Spec PyProof.Rows L2 RZ Lf
def plD (K : PySem.W.Frag) (n : Str) : D := .op (excD (He.ga K n) none)
def pl (K : PySem.W.Frag) (n : Nat) : List D := (ern.plain.take n).map (plD K)
theorem pl_len_le {K : PySem.W.Frag} {n : Nat} : (pl K n).length ≤ n := by
  unfold pl
  rw [List.length_map, List.length_take]
  exact Nat.min_le_left _ _
theorem pl_add {K : PySem.W.Frag} {n m : Nat} {l : List Str} (h : (ern.plain.drop n).take m = l) : pl K n ++ l.map (plD K) = pl K (n + m) := by
  unfold pl
  rw [← h, ← List.map_append, List.take_add]
theorem plain_step {K : PySem.W.Frag} {x : D} {da : DA} {s : DS} {E : DEnds} (n m q : Nat) (l : List Str) (h : (ern.plain.drop n).take m = l) (eq : q = n + m) (hn : n ≤ 1000) (hm : l.length ≤ 1000)
    (ha : ∀ env : Lf.Env, env[0]? = some (some (.d x)) → EvA da env (l.map (plD K))) (k : s [some (.d x), some (.d (.lst (pl K q)))] E) :
    dSeq (dAsg (dOp dbAdd (dVar 1) (dLst da)) (dgN 1)) s [some (.d x), some (.d (.lst (pl K n)))] E := by
  subst eq
  have := pl_len_le (K := K) (n := n)
  exact st_seq (st_asg1 (d := .lst (pl K (n + m))) (ev_op (ev_var (by rfl)) (ev_lst (ha _ (by rfl)) (by rw [List.length_map]; omega)) fun C q => rv_addL (by rw [List.length_map]; omega) (by rw [pl_add h]; exact q)) (by rfl) k)
def w_law_plain_errors (K : PySem.W.Frag) : PW := fun ds C => ∃ x, ds = [x] ∧ C (.lst (pl K 71))
def r_law_plain_errors (K : PySem.W.Frag) : DS := (dSeq (dAsg (dLst dNil) (dgN 1)) (dSeq (dAsg (dOp dbAdd (dVar 1) (dLst (dCons (dExc (He.ga K "Asked") (dVar 0)) (dCons (dExc (He.ga K "BadAt") (dVar 0)) (dCons (dExc (He.ga K "BadAtlas") (dVar 0)) (dCons (dExc (He.ga K "BadClaim") (dVar 0)) dNil)))))) (dgN 1)) (dSeq (dAsg (dOp dbAdd (dVar 1) (dLst (dCons (dExc (He.ga K "BadColumns") (dVar 0)) (dCons (dExc (He.ga K "BadCosts") (dVar 0)) (dCons (dExc (He.ga K "BadCount") (dVar 0)) (dCons (dExc (He.ga K "BadCounts") (dVar 0)) dNil)))))) (dgN 1)) (dSeq (dAsg (dOp dbAdd (dVar 1) (dLst (dCons (dExc (He.ga K "BadDeed") (dVar 0)) (dCons (dExc (He.ga K "BadDeeds") (dVar 0)) (dCons (dExc (He.ga K "BadEnds") (dVar 0)) (dCons (dExc (He.ga K "BadErrand") (dVar 0)) dNil)))))) (dgN 1)) (dSeq (dAsg (dOp dbAdd (dVar 1) (dLst (dCons (dExc (He.ga K "BadExtra") (dVar 0)) (dCons (dExc (He.ga K "BadFact") (dVar 0)) (dCons (dExc (He.ga K "BadFacts") (dVar 0)) (dCons (dExc (He.ga K "BadFlow") (dVar 0)) dNil)))))) (dgN 1)) (dSeq (dAsg (dOp dbAdd (dVar 1) (dLst (dCons (dExc (He.ga K "BadGoal") (dVar 0)) (dCons (dExc (He.ga K "BadHigh") (dVar 0)) (dCons (dExc (He.ga K "BadIndex") (dVar 0)) (dCons (dExc (He.ga K "BadIndexes") (dVar 0)) dNil)))))) (dgN 1)) (dSeq (dAsg (dOp dbAdd (dVar 1) (dLst (dCons (dExc (He.ga K "BadKind") (dVar 0)) (dCons (dExc (He.ga K "BadLine") (dVar 0)) (dCons (dExc (He.ga K "BadLog") (dVar 0)) (dCons (dExc (He.ga K "BadLot") (dVar 0)) dNil)))))) (dgN 1)) (dSeq (dAsg (dOp dbAdd (dVar 1) (dLst (dCons (dExc (He.ga K "BadLow") (dVar 0)) (dCons (dExc (He.ga K "BadMix") (dVar 0)) (dCons (dExc (He.ga K "BadNet") (dVar 0)) (dCons (dExc (He.ga K "BadPair") (dVar 0)) dNil)))))) (dgN 1)) (dSeq (dAsg (dOp dbAdd (dVar 1) (dLst (dCons (dExc (He.ga K "BadPairs") (dVar 0)) (dCons (dExc (He.ga K "BadParty") (dVar 0)) (dCons (dExc (He.ga K "BadPath") (dVar 0)) (dCons (dExc (He.ga K "BadPlace") (dVar 0)) dNil)))))) (dgN 1)) (dSeq (dAsg (dOp dbAdd (dVar 1) (dLst (dCons (dExc (He.ga K "BadPlaces") (dVar 0)) (dCons (dExc (He.ga K "BadRatio") (dVar 0)) (dCons (dExc (He.ga K "BadRose") (dVar 0)) (dCons (dExc (He.ga K "BadRoutes") (dVar 0)) dNil)))))) (dgN 1)) (dSeq (dAsg (dOp dbAdd (dVar 1) (dLst (dCons (dExc (He.ga K "BadRow") (dVar 0)) (dCons (dExc (He.ga K "BadRows") (dVar 0)) (dCons (dExc (He.ga K "BadScale") (dVar 0)) (dCons (dExc (He.ga K "BadSize") (dVar 0)) dNil)))))) (dgN 1)) (dSeq (dAsg (dOp dbAdd (dVar 1) (dLst (dCons (dExc (He.ga K "BadSpot") (dVar 0)) (dCons (dExc (He.ga K "BadStep") (dVar 0)) (dCons (dExc (He.ga K "BadSteps") (dVar 0)) (dCons (dExc (He.ga K "BadTable") (dVar 0)) dNil)))))) (dgN 1)) (dSeq (dAsg (dOp dbAdd (dVar 1) (dLst (dCons (dExc (He.ga K "BadTables") (dVar 0)) (dCons (dExc (He.ga K "BadTie") (dVar 0)) (dCons (dExc (He.ga K "BadTies") (dVar 0)) (dCons (dExc (He.ga K "BadTime") (dVar 0)) dNil)))))) (dgN 1)) (dSeq (dAsg (dOp dbAdd (dVar 1) (dLst (dCons (dExc (He.ga K "BadTimes") (dVar 0)) (dCons (dExc (He.ga K "BadTrip") (dVar 0)) (dCons (dExc (He.ga K "BadTrips") (dVar 0)) (dCons (dExc (He.ga K "BadWalk") (dVar 0)) dNil)))))) (dgN 1)) (dSeq (dAsg (dOp dbAdd (dVar 1) (dLst (dCons (dExc (He.ga K "BadWay") (dVar 0)) (dCons (dExc (He.ga K "BadWeights") (dVar 0)) (dCons (dExc (He.ga K "BadWind") (dVar 0)) (dCons (dExc (He.ga K "BadWord") (dVar 0)) dNil)))))) (dgN 1)) (dSeq (dAsg (dOp dbAdd (dVar 1) (dLst (dCons (dExc (He.ga K "Endless") (dVar 0)) (dCons (dExc (He.ga K "Named") (dVar 0)) (dCons (dExc (He.ga K "NoName") (dVar 0)) (dCons (dExc (He.ga K "NoPath") (dVar 0)) dNil)))))) (dgN 1)) (dSeq (dAsg (dOp dbAdd (dVar 1) (dLst (dCons (dExc (He.ga K "NoQuestion") (dVar 0)) (dCons (dExc (He.ga K "NotFlat") (dVar 0)) (dCons (dExc (He.ga K "NotMirrored") (dVar 0)) (dCons (dExc (He.ga K "NothingDone") (dVar 0)) dNil)))))) (dgN 1)) (dSeq (dAsg (dOp dbAdd (dVar 1) (dLst (dCons (dExc (He.ga K "NothingUndone") (dVar 0)) (dCons (dExc (He.ga K "OtherPlaces") (dVar 0)) (dCons (dExc (He.ga K "OtherSize") (dVar 0)) (dCons (dExc (He.ga K "Quarrel") (dVar 0)) dNil)))))) (dgN 1)) (dSeq (dAsg (dOp dbAdd (dVar 1) (dLst (dCons (dExc (He.ga K "Unkept") (dVar 0)) (dCons (dExc (He.ga K "Used") (dVar 0)) (dCons (dExc (He.ga K "Windless") (dVar 0)) dNil))))) (dgN 1)) (dRet (dVar 1)))))))))))))))))))))
theorem body_law_plain_errors {P : Program} {w : World} {K : PySem.W.Frag} {mg : Str → Option Value} (T : Top P w K mg) : ∀ (as : List D) (C : D → Prop), as.length = 1 → w_law_plain_errors K as C → r_law_plain_errors K (env0 (["words", "found"].length - 1) as) { nx := fun _ => C .non, rt := fun d _ => C d } := by
  rintro as C _ ⟨x, rfl, h⟩
  have ie : ∀ {env : Lf.Env} (y : Str), env[0]? = some (some (.d x)) → Ev (dExc (He.ga K y) (dVar 0)) env (plD K y) := fun y he => ev_exc (ev_var he)
  unfold r_law_plain_errors
  refine st_seq (st_asg1 (d := .lst (pl K 0)) (ev_lst ea_nil (by show 0 ≤ 100000; decide)) (by rfl) ?_)
  refine plain_step 0 4 4 [("Asked" : Str), ("BadAt" : Str), ("BadAtlas" : Str), ("BadClaim" : Str)] (by decide +kernel) (by decide) (by decide) (by decide) (fun env he => (ea_cons (ie "Asked" he) (ea_cons (ie "BadAt" he) (ea_cons (ie "BadAtlas" he) (ea_cons (ie "BadClaim" he) ea_nil))))) ?_
  refine plain_step 4 4 8 [("BadColumns" : Str), ("BadCosts" : Str), ("BadCount" : Str), ("BadCounts" : Str)] (by decide +kernel) (by decide) (by decide) (by decide) (fun env he => (ea_cons (ie "BadColumns" he) (ea_cons (ie "BadCosts" he) (ea_cons (ie "BadCount" he) (ea_cons (ie "BadCounts" he) ea_nil))))) ?_
  refine plain_step 8 4 12 [("BadDeed" : Str), ("BadDeeds" : Str), ("BadEnds" : Str), ("BadErrand" : Str)] (by decide +kernel) (by decide) (by decide) (by decide) (fun env he => (ea_cons (ie "BadDeed" he) (ea_cons (ie "BadDeeds" he) (ea_cons (ie "BadEnds" he) (ea_cons (ie "BadErrand" he) ea_nil))))) ?_
  refine plain_step 12 4 16 [("BadExtra" : Str), ("BadFact" : Str), ("BadFacts" : Str), ("BadFlow" : Str)] (by decide +kernel) (by decide) (by decide) (by decide) (fun env he => (ea_cons (ie "BadExtra" he) (ea_cons (ie "BadFact" he) (ea_cons (ie "BadFacts" he) (ea_cons (ie "BadFlow" he) ea_nil))))) ?_
  refine plain_step 16 4 20 [("BadGoal" : Str), ("BadHigh" : Str), ("BadIndex" : Str), ("BadIndexes" : Str)] (by decide +kernel) (by decide) (by decide) (by decide) (fun env he => (ea_cons (ie "BadGoal" he) (ea_cons (ie "BadHigh" he) (ea_cons (ie "BadIndex" he) (ea_cons (ie "BadIndexes" he) ea_nil))))) ?_
  refine plain_step 20 4 24 [("BadKind" : Str), ("BadLine" : Str), ("BadLog" : Str), ("BadLot" : Str)] (by decide +kernel) (by decide) (by decide) (by decide) (fun env he => (ea_cons (ie "BadKind" he) (ea_cons (ie "BadLine" he) (ea_cons (ie "BadLog" he) (ea_cons (ie "BadLot" he) ea_nil))))) ?_
  refine plain_step 24 4 28 [("BadLow" : Str), ("BadMix" : Str), ("BadNet" : Str), ("BadPair" : Str)] (by decide +kernel) (by decide) (by decide) (by decide) (fun env he => (ea_cons (ie "BadLow" he) (ea_cons (ie "BadMix" he) (ea_cons (ie "BadNet" he) (ea_cons (ie "BadPair" he) ea_nil))))) ?_
  refine plain_step 28 4 32 [("BadPairs" : Str), ("BadParty" : Str), ("BadPath" : Str), ("BadPlace" : Str)] (by decide +kernel) (by decide) (by decide) (by decide) (fun env he => (ea_cons (ie "BadPairs" he) (ea_cons (ie "BadParty" he) (ea_cons (ie "BadPath" he) (ea_cons (ie "BadPlace" he) ea_nil))))) ?_
  refine plain_step 32 4 36 [("BadPlaces" : Str), ("BadRatio" : Str), ("BadRose" : Str), ("BadRoutes" : Str)] (by decide +kernel) (by decide) (by decide) (by decide) (fun env he => (ea_cons (ie "BadPlaces" he) (ea_cons (ie "BadRatio" he) (ea_cons (ie "BadRose" he) (ea_cons (ie "BadRoutes" he) ea_nil))))) ?_
  refine plain_step 36 4 40 [("BadRow" : Str), ("BadRows" : Str), ("BadScale" : Str), ("BadSize" : Str)] (by decide +kernel) (by decide) (by decide) (by decide) (fun env he => (ea_cons (ie "BadRow" he) (ea_cons (ie "BadRows" he) (ea_cons (ie "BadScale" he) (ea_cons (ie "BadSize" he) ea_nil))))) ?_
  refine plain_step 40 4 44 [("BadSpot" : Str), ("BadStep" : Str), ("BadSteps" : Str), ("BadTable" : Str)] (by decide +kernel) (by decide) (by decide) (by decide) (fun env he => (ea_cons (ie "BadSpot" he) (ea_cons (ie "BadStep" he) (ea_cons (ie "BadSteps" he) (ea_cons (ie "BadTable" he) ea_nil))))) ?_
  refine plain_step 44 4 48 [("BadTables" : Str), ("BadTie" : Str), ("BadTies" : Str), ("BadTime" : Str)] (by decide +kernel) (by decide) (by decide) (by decide) (fun env he => (ea_cons (ie "BadTables" he) (ea_cons (ie "BadTie" he) (ea_cons (ie "BadTies" he) (ea_cons (ie "BadTime" he) ea_nil))))) ?_
  refine plain_step 48 4 52 [("BadTimes" : Str), ("BadTrip" : Str), ("BadTrips" : Str), ("BadWalk" : Str)] (by decide +kernel) (by decide) (by decide) (by decide) (fun env he => (ea_cons (ie "BadTimes" he) (ea_cons (ie "BadTrip" he) (ea_cons (ie "BadTrips" he) (ea_cons (ie "BadWalk" he) ea_nil))))) ?_
  refine plain_step 52 4 56 [("BadWay" : Str), ("BadWeights" : Str), ("BadWind" : Str), ("BadWord" : Str)] (by decide +kernel) (by decide) (by decide) (by decide) (fun env he => (ea_cons (ie "BadWay" he) (ea_cons (ie "BadWeights" he) (ea_cons (ie "BadWind" he) (ea_cons (ie "BadWord" he) ea_nil))))) ?_
  refine plain_step 56 4 60 [("Endless" : Str), ("Named" : Str), ("NoName" : Str), ("NoPath" : Str)] (by decide +kernel) (by decide) (by decide) (by decide) (fun env he => (ea_cons (ie "Endless" he) (ea_cons (ie "Named" he) (ea_cons (ie "NoName" he) (ea_cons (ie "NoPath" he) ea_nil))))) ?_
  refine plain_step 60 4 64 [("NoQuestion" : Str), ("NotFlat" : Str), ("NotMirrored" : Str), ("NothingDone" : Str)] (by decide +kernel) (by decide) (by decide) (by decide) (fun env he => (ea_cons (ie "NoQuestion" he) (ea_cons (ie "NotFlat" he) (ea_cons (ie "NotMirrored" he) (ea_cons (ie "NothingDone" he) ea_nil))))) ?_
  refine plain_step 64 4 68 [("NothingUndone" : Str), ("OtherPlaces" : Str), ("OtherSize" : Str), ("Quarrel" : Str)] (by decide +kernel) (by decide) (by decide) (by decide) (fun env he => (ea_cons (ie "NothingUndone" he) (ea_cons (ie "OtherPlaces" he) (ea_cons (ie "OtherSize" he) (ea_cons (ie "Quarrel" he) ea_nil))))) ?_
  refine plain_step 68 3 71 [("Unkept" : Str), ("Used" : Str), ("Windless" : Str)] (by decide +kernel) (by decide) (by decide) (by decide) (fun env he => (ea_cons (ie "Unkept" he) (ea_cons (ie "Used" he) (ea_cons (ie "Windless" he) ea_nil)))) ?_
  exact st_ret1 (ev_var (by rfl)) h
section
variable {P : Program} {w : World} {K : PySem.W.Frag} {mg : Str → Option Value} {base : Heap}
theorem sc_law_plain_errors : FnScope ["words", "found"] ["words"] (defScope (top 86)) := ⟨rfl, rfl, rfl, by decide +kernel, rfl, by decide +kernel, by decide +kernel⟩
theorem ok_law_plain_errors (T : Top P w K mg) : Fn P w K mg base 1 "_law_plain_errors" ["words"] (PSp 1 (w_law_plain_errors K)) := by
  obtain ⟨fd, F⟩ := T.fn 5 (x := "_law_plain_errors") (st := (top 86)) rfl
  have sc := sc_law_plain_errors
  have tm : ∀ x, x ∈ frees → mg x = none := fun x hx => T.free x (mem_free hx)
  refine ⟨⟨fd, F.ok sc (fun vs H Q E h => h.len) (fun cdv A outer s H vs Q E hr h => ?d), F.bindsN fun _ _ _ _ _ _ us hl => match us, hl with | [_], _ => rfl⟩, T.glo "_law_plain_errors" (mem_glo (by decide +kernel)), F.kp⟩
  exact ⟨_, PSs.nox (pss_cons (ps_set (i := 1) sc.nd rfl (by first | exact Or.inl rfl | exact Or.inr rfl) (pe_lst pa_nil)) (pss_cons (ps_set (i := 1) sc.nd rfl (by first | exact Or.inl rfl | exact Or.inr rfl) (pe_op (show OpR _ _ (rbAdd K) from ob_add) (pv 1) (pe_lst (pa_cons (pe_excG (K := K) rfl (T.exc (mem_exc (x := "Asked") (by decide +kernel))) (T.glo "Asked" (mem_glo (by decide +kernel))) (by rfl) (pv 0)) (pa_cons (pe_excG (K := K) rfl (T.exc (mem_exc (x := "BadAt") (by decide +kernel))) (T.glo "BadAt" (mem_glo (by decide +kernel))) (by rfl) (pv 0)) (pa_cons (pe_excG (K := K) rfl (T.exc (mem_exc (x := "BadAtlas") (by decide +kernel))) (T.glo "BadAtlas" (mem_glo (by decide +kernel))) (by rfl) (pv 0)) (pa_cons (pe_excG (K := K) rfl (T.exc (mem_exc (x := "BadClaim") (by decide +kernel))) (T.glo "BadClaim" (mem_glo (by decide +kernel))) (by rfl) (pv 0)) pa_nil))))))) (pss_cons (ps_set (i := 1) sc.nd rfl (by first | exact Or.inl rfl | exact Or.inr rfl) (pe_op (show OpR _ _ (rbAdd K) from ob_add) (pv 1) (pe_lst (pa_cons (pe_excG (K := K) rfl (T.exc (mem_exc (x := "BadColumns") (by decide +kernel))) (T.glo "BadColumns" (mem_glo (by decide +kernel))) (by rfl) (pv 0)) (pa_cons (pe_excG (K := K) rfl (T.exc (mem_exc (x := "BadCosts") (by decide +kernel))) (T.glo "BadCosts" (mem_glo (by decide +kernel))) (by rfl) (pv 0)) (pa_cons (pe_excG (K := K) rfl (T.exc (mem_exc (x := "BadCount") (by decide +kernel))) (T.glo "BadCount" (mem_glo (by decide +kernel))) (by rfl) (pv 0)) (pa_cons (pe_excG (K := K) rfl (T.exc (mem_exc (x := "BadCounts") (by decide +kernel))) (T.glo "BadCounts" (mem_glo (by decide +kernel))) (by rfl) (pv 0)) pa_nil))))))) (pss_cons (ps_set (i := 1) sc.nd rfl (by first | exact Or.inl rfl | exact Or.inr rfl) (pe_op (show OpR _ _ (rbAdd K) from ob_add) (pv 1) (pe_lst (pa_cons (pe_excG (K := K) rfl (T.exc (mem_exc (x := "BadDeed") (by decide +kernel))) (T.glo "BadDeed" (mem_glo (by decide +kernel))) (by rfl) (pv 0)) (pa_cons (pe_excG (K := K) rfl (T.exc (mem_exc (x := "BadDeeds") (by decide +kernel))) (T.glo "BadDeeds" (mem_glo (by decide +kernel))) (by rfl) (pv 0)) (pa_cons (pe_excG (K := K) rfl (T.exc (mem_exc (x := "BadEnds") (by decide +kernel))) (T.glo "BadEnds" (mem_glo (by decide +kernel))) (by rfl) (pv 0)) (pa_cons (pe_excG (K := K) rfl (T.exc (mem_exc (x := "BadErrand") (by decide +kernel))) (T.glo "BadErrand" (mem_glo (by decide +kernel))) (by rfl) (pv 0)) pa_nil))))))) (pss_cons (ps_set (i := 1) sc.nd rfl (by first | exact Or.inl rfl | exact Or.inr rfl) (pe_op (show OpR _ _ (rbAdd K) from ob_add) (pv 1) (pe_lst (pa_cons (pe_excG (K := K) rfl (T.exc (mem_exc (x := "BadExtra") (by decide +kernel))) (T.glo "BadExtra" (mem_glo (by decide +kernel))) (by rfl) (pv 0)) (pa_cons (pe_excG (K := K) rfl (T.exc (mem_exc (x := "BadFact") (by decide +kernel))) (T.glo "BadFact" (mem_glo (by decide +kernel))) (by rfl) (pv 0)) (pa_cons (pe_excG (K := K) rfl (T.exc (mem_exc (x := "BadFacts") (by decide +kernel))) (T.glo "BadFacts" (mem_glo (by decide +kernel))) (by rfl) (pv 0)) (pa_cons (pe_excG (K := K) rfl (T.exc (mem_exc (x := "BadFlow") (by decide +kernel))) (T.glo "BadFlow" (mem_glo (by decide +kernel))) (by rfl) (pv 0)) pa_nil))))))) (pss_cons (ps_set (i := 1) sc.nd rfl (by first | exact Or.inl rfl | exact Or.inr rfl) (pe_op (show OpR _ _ (rbAdd K) from ob_add) (pv 1) (pe_lst (pa_cons (pe_excG (K := K) rfl (T.exc (mem_exc (x := "BadGoal") (by decide +kernel))) (T.glo "BadGoal" (mem_glo (by decide +kernel))) (by rfl) (pv 0)) (pa_cons (pe_excG (K := K) rfl (T.exc (mem_exc (x := "BadHigh") (by decide +kernel))) (T.glo "BadHigh" (mem_glo (by decide +kernel))) (by rfl) (pv 0)) (pa_cons (pe_excG (K := K) rfl (T.exc (mem_exc (x := "BadIndex") (by decide +kernel))) (T.glo "BadIndex" (mem_glo (by decide +kernel))) (by rfl) (pv 0)) (pa_cons (pe_excG (K := K) rfl (T.exc (mem_exc (x := "BadIndexes") (by decide +kernel))) (T.glo "BadIndexes" (mem_glo (by decide +kernel))) (by rfl) (pv 0)) pa_nil))))))) (pss_cons (ps_set (i := 1) sc.nd rfl (by first | exact Or.inl rfl | exact Or.inr rfl) (pe_op (show OpR _ _ (rbAdd K) from ob_add) (pv 1) (pe_lst (pa_cons (pe_excG (K := K) rfl (T.exc (mem_exc (x := "BadKind") (by decide +kernel))) (T.glo "BadKind" (mem_glo (by decide +kernel))) (by rfl) (pv 0)) (pa_cons (pe_excG (K := K) rfl (T.exc (mem_exc (x := "BadLine") (by decide +kernel))) (T.glo "BadLine" (mem_glo (by decide +kernel))) (by rfl) (pv 0)) (pa_cons (pe_excG (K := K) rfl (T.exc (mem_exc (x := "BadLog") (by decide +kernel))) (T.glo "BadLog" (mem_glo (by decide +kernel))) (by rfl) (pv 0)) (pa_cons (pe_excG (K := K) rfl (T.exc (mem_exc (x := "BadLot") (by decide +kernel))) (T.glo "BadLot" (mem_glo (by decide +kernel))) (by rfl) (pv 0)) pa_nil))))))) (pss_cons (ps_set (i := 1) sc.nd rfl (by first | exact Or.inl rfl | exact Or.inr rfl) (pe_op (show OpR _ _ (rbAdd K) from ob_add) (pv 1) (pe_lst (pa_cons (pe_excG (K := K) rfl (T.exc (mem_exc (x := "BadLow") (by decide +kernel))) (T.glo "BadLow" (mem_glo (by decide +kernel))) (by rfl) (pv 0)) (pa_cons (pe_excG (K := K) rfl (T.exc (mem_exc (x := "BadMix") (by decide +kernel))) (T.glo "BadMix" (mem_glo (by decide +kernel))) (by rfl) (pv 0)) (pa_cons (pe_excG (K := K) rfl (T.exc (mem_exc (x := "BadNet") (by decide +kernel))) (T.glo "BadNet" (mem_glo (by decide +kernel))) (by rfl) (pv 0)) (pa_cons (pe_excG (K := K) rfl (T.exc (mem_exc (x := "BadPair") (by decide +kernel))) (T.glo "BadPair" (mem_glo (by decide +kernel))) (by rfl) (pv 0)) pa_nil))))))) (pss_cons (ps_set (i := 1) sc.nd rfl (by first | exact Or.inl rfl | exact Or.inr rfl) (pe_op (show OpR _ _ (rbAdd K) from ob_add) (pv 1) (pe_lst (pa_cons (pe_excG (K := K) rfl (T.exc (mem_exc (x := "BadPairs") (by decide +kernel))) (T.glo "BadPairs" (mem_glo (by decide +kernel))) (by rfl) (pv 0)) (pa_cons (pe_excG (K := K) rfl (T.exc (mem_exc (x := "BadParty") (by decide +kernel))) (T.glo "BadParty" (mem_glo (by decide +kernel))) (by rfl) (pv 0)) (pa_cons (pe_excG (K := K) rfl (T.exc (mem_exc (x := "BadPath") (by decide +kernel))) (T.glo "BadPath" (mem_glo (by decide +kernel))) (by rfl) (pv 0)) (pa_cons (pe_excG (K := K) rfl (T.exc (mem_exc (x := "BadPlace") (by decide +kernel))) (T.glo "BadPlace" (mem_glo (by decide +kernel))) (by rfl) (pv 0)) pa_nil))))))) (pss_cons (ps_set (i := 1) sc.nd rfl (by first | exact Or.inl rfl | exact Or.inr rfl) (pe_op (show OpR _ _ (rbAdd K) from ob_add) (pv 1) (pe_lst (pa_cons (pe_excG (K := K) rfl (T.exc (mem_exc (x := "BadPlaces") (by decide +kernel))) (T.glo "BadPlaces" (mem_glo (by decide +kernel))) (by rfl) (pv 0)) (pa_cons (pe_excG (K := K) rfl (T.exc (mem_exc (x := "BadRatio") (by decide +kernel))) (T.glo "BadRatio" (mem_glo (by decide +kernel))) (by rfl) (pv 0)) (pa_cons (pe_excG (K := K) rfl (T.exc (mem_exc (x := "BadRose") (by decide +kernel))) (T.glo "BadRose" (mem_glo (by decide +kernel))) (by rfl) (pv 0)) (pa_cons (pe_excG (K := K) rfl (T.exc (mem_exc (x := "BadRoutes") (by decide +kernel))) (T.glo "BadRoutes" (mem_glo (by decide +kernel))) (by rfl) (pv 0)) pa_nil))))))) (pss_cons (ps_set (i := 1) sc.nd rfl (by first | exact Or.inl rfl | exact Or.inr rfl) (pe_op (show OpR _ _ (rbAdd K) from ob_add) (pv 1) (pe_lst (pa_cons (pe_excG (K := K) rfl (T.exc (mem_exc (x := "BadRow") (by decide +kernel))) (T.glo "BadRow" (mem_glo (by decide +kernel))) (by rfl) (pv 0)) (pa_cons (pe_excG (K := K) rfl (T.exc (mem_exc (x := "BadRows") (by decide +kernel))) (T.glo "BadRows" (mem_glo (by decide +kernel))) (by rfl) (pv 0)) (pa_cons (pe_excG (K := K) rfl (T.exc (mem_exc (x := "BadScale") (by decide +kernel))) (T.glo "BadScale" (mem_glo (by decide +kernel))) (by rfl) (pv 0)) (pa_cons (pe_excG (K := K) rfl (T.exc (mem_exc (x := "BadSize") (by decide +kernel))) (T.glo "BadSize" (mem_glo (by decide +kernel))) (by rfl) (pv 0)) pa_nil))))))) (pss_cons (ps_set (i := 1) sc.nd rfl (by first | exact Or.inl rfl | exact Or.inr rfl) (pe_op (show OpR _ _ (rbAdd K) from ob_add) (pv 1) (pe_lst (pa_cons (pe_excG (K := K) rfl (T.exc (mem_exc (x := "BadSpot") (by decide +kernel))) (T.glo "BadSpot" (mem_glo (by decide +kernel))) (by rfl) (pv 0)) (pa_cons (pe_excG (K := K) rfl (T.exc (mem_exc (x := "BadStep") (by decide +kernel))) (T.glo "BadStep" (mem_glo (by decide +kernel))) (by rfl) (pv 0)) (pa_cons (pe_excG (K := K) rfl (T.exc (mem_exc (x := "BadSteps") (by decide +kernel))) (T.glo "BadSteps" (mem_glo (by decide +kernel))) (by rfl) (pv 0)) (pa_cons (pe_excG (K := K) rfl (T.exc (mem_exc (x := "BadTable") (by decide +kernel))) (T.glo "BadTable" (mem_glo (by decide +kernel))) (by rfl) (pv 0)) pa_nil))))))) (pss_cons (ps_set (i := 1) sc.nd rfl (by first | exact Or.inl rfl | exact Or.inr rfl) (pe_op (show OpR _ _ (rbAdd K) from ob_add) (pv 1) (pe_lst (pa_cons (pe_excG (K := K) rfl (T.exc (mem_exc (x := "BadTables") (by decide +kernel))) (T.glo "BadTables" (mem_glo (by decide +kernel))) (by rfl) (pv 0)) (pa_cons (pe_excG (K := K) rfl (T.exc (mem_exc (x := "BadTie") (by decide +kernel))) (T.glo "BadTie" (mem_glo (by decide +kernel))) (by rfl) (pv 0)) (pa_cons (pe_excG (K := K) rfl (T.exc (mem_exc (x := "BadTies") (by decide +kernel))) (T.glo "BadTies" (mem_glo (by decide +kernel))) (by rfl) (pv 0)) (pa_cons (pe_excG (K := K) rfl (T.exc (mem_exc (x := "BadTime") (by decide +kernel))) (T.glo "BadTime" (mem_glo (by decide +kernel))) (by rfl) (pv 0)) pa_nil))))))) (pss_cons (ps_set (i := 1) sc.nd rfl (by first | exact Or.inl rfl | exact Or.inr rfl) (pe_op (show OpR _ _ (rbAdd K) from ob_add) (pv 1) (pe_lst (pa_cons (pe_excG (K := K) rfl (T.exc (mem_exc (x := "BadTimes") (by decide +kernel))) (T.glo "BadTimes" (mem_glo (by decide +kernel))) (by rfl) (pv 0)) (pa_cons (pe_excG (K := K) rfl (T.exc (mem_exc (x := "BadTrip") (by decide +kernel))) (T.glo "BadTrip" (mem_glo (by decide +kernel))) (by rfl) (pv 0)) (pa_cons (pe_excG (K := K) rfl (T.exc (mem_exc (x := "BadTrips") (by decide +kernel))) (T.glo "BadTrips" (mem_glo (by decide +kernel))) (by rfl) (pv 0)) (pa_cons (pe_excG (K := K) rfl (T.exc (mem_exc (x := "BadWalk") (by decide +kernel))) (T.glo "BadWalk" (mem_glo (by decide +kernel))) (by rfl) (pv 0)) pa_nil))))))) (pss_cons (ps_set (i := 1) sc.nd rfl (by first | exact Or.inl rfl | exact Or.inr rfl) (pe_op (show OpR _ _ (rbAdd K) from ob_add) (pv 1) (pe_lst (pa_cons (pe_excG (K := K) rfl (T.exc (mem_exc (x := "BadWay") (by decide +kernel))) (T.glo "BadWay" (mem_glo (by decide +kernel))) (by rfl) (pv 0)) (pa_cons (pe_excG (K := K) rfl (T.exc (mem_exc (x := "BadWeights") (by decide +kernel))) (T.glo "BadWeights" (mem_glo (by decide +kernel))) (by rfl) (pv 0)) (pa_cons (pe_excG (K := K) rfl (T.exc (mem_exc (x := "BadWind") (by decide +kernel))) (T.glo "BadWind" (mem_glo (by decide +kernel))) (by rfl) (pv 0)) (pa_cons (pe_excG (K := K) rfl (T.exc (mem_exc (x := "BadWord") (by decide +kernel))) (T.glo "BadWord" (mem_glo (by decide +kernel))) (by rfl) (pv 0)) pa_nil))))))) (pss_cons (ps_set (i := 1) sc.nd rfl (by first | exact Or.inl rfl | exact Or.inr rfl) (pe_op (show OpR _ _ (rbAdd K) from ob_add) (pv 1) (pe_lst (pa_cons (pe_excG (K := K) rfl (T.exc (mem_exc (x := "Endless") (by decide +kernel))) (T.glo "Endless" (mem_glo (by decide +kernel))) (by rfl) (pv 0)) (pa_cons (pe_excG (K := K) rfl (T.exc (mem_exc (x := "Named") (by decide +kernel))) (T.glo "Named" (mem_glo (by decide +kernel))) (by rfl) (pv 0)) (pa_cons (pe_excG (K := K) rfl (T.exc (mem_exc (x := "NoName") (by decide +kernel))) (T.glo "NoName" (mem_glo (by decide +kernel))) (by rfl) (pv 0)) (pa_cons (pe_excG (K := K) rfl (T.exc (mem_exc (x := "NoPath") (by decide +kernel))) (T.glo "NoPath" (mem_glo (by decide +kernel))) (by rfl) (pv 0)) pa_nil))))))) (pss_cons (ps_set (i := 1) sc.nd rfl (by first | exact Or.inl rfl | exact Or.inr rfl) (pe_op (show OpR _ _ (rbAdd K) from ob_add) (pv 1) (pe_lst (pa_cons (pe_excG (K := K) rfl (T.exc (mem_exc (x := "NoQuestion") (by decide +kernel))) (T.glo "NoQuestion" (mem_glo (by decide +kernel))) (by rfl) (pv 0)) (pa_cons (pe_excG (K := K) rfl (T.exc (mem_exc (x := "NotFlat") (by decide +kernel))) (T.glo "NotFlat" (mem_glo (by decide +kernel))) (by rfl) (pv 0)) (pa_cons (pe_excG (K := K) rfl (T.exc (mem_exc (x := "NotMirrored") (by decide +kernel))) (T.glo "NotMirrored" (mem_glo (by decide +kernel))) (by rfl) (pv 0)) (pa_cons (pe_excG (K := K) rfl (T.exc (mem_exc (x := "NothingDone") (by decide +kernel))) (T.glo "NothingDone" (mem_glo (by decide +kernel))) (by rfl) (pv 0)) pa_nil))))))) (pss_cons (ps_set (i := 1) sc.nd rfl (by first | exact Or.inl rfl | exact Or.inr rfl) (pe_op (show OpR _ _ (rbAdd K) from ob_add) (pv 1) (pe_lst (pa_cons (pe_excG (K := K) rfl (T.exc (mem_exc (x := "NothingUndone") (by decide +kernel))) (T.glo "NothingUndone" (mem_glo (by decide +kernel))) (by rfl) (pv 0)) (pa_cons (pe_excG (K := K) rfl (T.exc (mem_exc (x := "OtherPlaces") (by decide +kernel))) (T.glo "OtherPlaces" (mem_glo (by decide +kernel))) (by rfl) (pv 0)) (pa_cons (pe_excG (K := K) rfl (T.exc (mem_exc (x := "OtherSize") (by decide +kernel))) (T.glo "OtherSize" (mem_glo (by decide +kernel))) (by rfl) (pv 0)) (pa_cons (pe_excG (K := K) rfl (T.exc (mem_exc (x := "Quarrel") (by decide +kernel))) (T.glo "Quarrel" (mem_glo (by decide +kernel))) (by rfl) (pv 0)) pa_nil))))))) (pss_cons (ps_set (i := 1) sc.nd rfl (by first | exact Or.inl rfl | exact Or.inr rfl) (pe_op (show OpR _ _ (rbAdd K) from ob_add) (pv 1) (pe_lst (pa_cons (pe_excG (K := K) rfl (T.exc (mem_exc (x := "Unkept") (by decide +kernel))) (T.glo "Unkept" (mem_glo (by decide +kernel))) (by rfl) (pv 0)) (pa_cons (pe_excG (K := K) rfl (T.exc (mem_exc (x := "Used") (by decide +kernel))) (T.glo "Used" (mem_glo (by decide +kernel))) (by rfl) (pv 0)) (pa_cons (pe_excG (K := K) rfl (T.exc (mem_exc (x := "Windless") (by decide +kernel))) (T.glo "Windless" (mem_glo (by decide +kernel))) (by rfl) (pv 0)) pa_nil)))))) (pss_one (ps_ret (pv 1)))))))))))))))))))))), ps_body h (ds := (r_law_plain_errors K)) inferInstance (body_law_plain_errors T)⟩

end
end K00
set_option Elab.async false
set_option linter.all false
set_option maxRecDepth 100000
set_option maxHeartbeats 4000000
set_option synthInstance.maxHeartbeats 4000000
set_option synthInstance.maxSize 100000
namespace K00
open PySem PySem.Spec PyProof.Rows L2 RZ Lf
theorem sc_ini_BadDrift : FnScope ["self", "step"] ["self", "step"] (defScope (meth 12 0)) := ⟨rfl, rfl, rfl, by decide +kernel, rfl, by decide +kernel, by decide +kernel⟩
theorem okk_ini_BadDrift {P : Program} {w : World} {K : PySem.W.Frag} {mg : Str → Option Value} {base : Heap} (T : Top P w K mg) : ∃ fd, FnOk P w K mg base CX0 1 (He.ma K (He.ga K "BadDrift") "__init__") fd ["self", "step"] (iniSp K "step") ∧ KBn K fd ["self", "step"] 1 ["step"] (KG.of .app) (KG.of .app) ∧ L2.Binds K fd ["self", "step"] [] := by
  obtain ⟨fd, F⟩ := T.says.def_ 9 (d := mdef "BadDrift" "__init__" "BadDrift.__init__" (meth 12 0)) rfl
  have sc := sc_ini_BadDrift
  exact ⟨fd, FunD.ok F sc (fun vs H Q E h => by obtain ⟨a, C, v, rfl, _⟩ := h; rfl) (fun cdv A outer s H vs Q E hr h => ⟨_, PSs.nox (pss_one (ps_ost (pv 0) (pv 1))), ini_pure h⟩), kbG F .app 1 ["step"] (fun _ _ _ _ _ _ us ws h1 h2 => match us, ws, h1, h2 with | [_], [_], _, _ => rfl), FunD.bindsN F fun _ _ _ _ _ _ us hl => match us, hl with | [_, _], _ => rfl⟩
theorem ok_ini_BadDrift {P : Program} {w : World} {K : PySem.W.Frag} {mg : Str → Option Value} {base : Heap} (T : Top P w K mg) : Mt P w K mg base 1 (He.ga K "BadDrift") "__init__" ["self", "step"] (iniSp K "step") := let ⟨fd, h1, _, h3⟩ := okk_ini_BadDrift T; ⟨fd, h1, h3⟩
theorem okq_ini_BadDrift {P : Program} {w : World} {K : PySem.W.Frag} {mg : Str → Option Value} {base : Heap} (T : Top P w K mg) : ∃ fd, FnOk P w K mg base CX0 1 (He.ma K (He.ga K "BadDrift") "__init__") fd ["self", "step"] (iniSp K "step") ∧ KBn K fd ["self", "step"] 1 ["step"] (KG.of .app) (KG.of .app) := let ⟨fd, h1, h2, _⟩ := okk_ini_BadDrift T; ⟨fd, h1, h2⟩
theorem sc_ini_BadNumber : FnScope ["self", "part"] ["self", "part"] (defScope (meth 30 0)) := ⟨rfl, rfl, rfl, by decide +kernel, rfl, by decide +kernel, by decide +kernel⟩
theorem okk_ini_BadNumber {P : Program} {w : World} {K : PySem.W.Frag} {mg : Str → Option Value} {base : Heap} (T : Top P w K mg) : ∃ fd, FnOk P w K mg base CX0 1 (He.ma K (He.ga K "BadNumber") "__init__") fd ["self", "part"] (iniSp K "part") ∧ KBn K fd ["self", "part"] 1 ["part"] (KG.of .app) (KG.of .app) ∧ L2.Binds K fd ["self", "part"] [] := by
  obtain ⟨fd, F⟩ := T.says.def_ 10 (d := mdef "BadNumber" "__init__" "BadNumber.__init__" (meth 30 0)) rfl
  have sc := sc_ini_BadNumber
  exact ⟨fd, FunD.ok F sc (fun vs H Q E h => by obtain ⟨a, C, v, rfl, _⟩ := h; rfl) (fun cdv A outer s H vs Q E hr h => ⟨_, PSs.nox (pss_one (ps_ost (pv 0) (pv 1))), ini_pure h⟩), kbG F .app 1 ["part"] (fun _ _ _ _ _ _ us ws h1 h2 => match us, ws, h1, h2 with | [_], [_], _, _ => rfl), FunD.bindsN F fun _ _ _ _ _ _ us hl => match us, hl with | [_, _], _ => rfl⟩
theorem ok_ini_BadNumber {P : Program} {w : World} {K : PySem.W.Frag} {mg : Str → Option Value} {base : Heap} (T : Top P w K mg) : Mt P w K mg base 1 (He.ga K "BadNumber") "__init__" ["self", "part"] (iniSp K "part") := let ⟨fd, h1, _, h3⟩ := okk_ini_BadNumber T; ⟨fd, h1, h3⟩
theorem okq_ini_BadNumber {P : Program} {w : World} {K : PySem.W.Frag} {mg : Str → Option Value} {base : Heap} (T : Top P w K mg) : ∃ fd, FnOk P w K mg base CX0 1 (He.ma K (He.ga K "BadNumber") "__init__") fd ["self", "part"] (iniSp K "part") ∧ KBn K fd ["self", "part"] 1 ["part"] (KG.of .app) (KG.of .app) := let ⟨fd, h1, h2, _⟩ := okk_ini_BadNumber T; ⟨fd, h1, h2⟩
theorem sc_ini_BadText : FnScope ["self", "line"] ["self", "line"] (defScope (meth 49 0)) := ⟨rfl, rfl, rfl, by decide +kernel, rfl, by decide +kernel, by decide +kernel⟩
theorem okk_ini_BadText {P : Program} {w : World} {K : PySem.W.Frag} {mg : Str → Option Value} {base : Heap} (T : Top P w K mg) : ∃ fd, FnOk P w K mg base CX0 1 (He.ma K (He.ga K "BadText") "__init__") fd ["self", "line"] (iniSp K "line") ∧ KBn K fd ["self", "line"] 1 ["line"] (KG.of .app) (KG.of .app) ∧ L2.Binds K fd ["self", "line"] [] := by
  obtain ⟨fd, F⟩ := T.says.def_ 11 (d := mdef "BadText" "__init__" "BadText.__init__" (meth 49 0)) rfl
  have sc := sc_ini_BadText
  exact ⟨fd, FunD.ok F sc (fun vs H Q E h => by obtain ⟨a, C, v, rfl, _⟩ := h; rfl) (fun cdv A outer s H vs Q E hr h => ⟨_, PSs.nox (pss_one (ps_ost (pv 0) (pv 1))), ini_pure h⟩), kbG F .app 1 ["line"] (fun _ _ _ _ _ _ us ws h1 h2 => match us, ws, h1, h2 with | [_], [_], _, _ => rfl), FunD.bindsN F fun _ _ _ _ _ _ us hl => match us, hl with | [_, _], _ => rfl⟩
theorem ok_ini_BadText {P : Program} {w : World} {K : PySem.W.Frag} {mg : Str → Option Value} {base : Heap} (T : Top P w K mg) : Mt P w K mg base 1 (He.ga K "BadText") "__init__" ["self", "line"] (iniSp K "line") := let ⟨fd, h1, _, h3⟩ := okk_ini_BadText T; ⟨fd, h1, h3⟩
theorem okq_ini_BadText {P : Program} {w : World} {K : PySem.W.Frag} {mg : Str → Option Value} {base : Heap} (T : Top P w K mg) : ∃ fd, FnOk P w K mg base CX0 1 (He.ma K (He.ga K "BadText") "__init__") fd ["self", "line"] (iniSp K "line") ∧ KBn K fd ["self", "line"] 1 ["line"] (KG.of .app) (KG.of .app) := let ⟨fd, h1, h2, _⟩ := okk_ini_BadText T; ⟨fd, h1, h2⟩
theorem sc_ini_Failed : FnScope ["self", "at"] ["self", "at"] (defScope (meth 62 0)) := ⟨rfl, rfl, rfl, by decide +kernel, rfl, by decide +kernel, by decide +kernel⟩
theorem okk_ini_Failed {P : Program} {w : World} {K : PySem.W.Frag} {mg : Str → Option Value} {base : Heap} (T : Top P w K mg) : ∃ fd, FnOk P w K mg base CX0 1 (He.ma K (He.ga K "Failed") "__init__") fd ["self", "at"] (iniSp K "at") ∧ KBn K fd ["self", "at"] 1 ["at"] (KG.of .app) (KG.of .app) ∧ L2.Binds K fd ["self", "at"] [] := by
  obtain ⟨fd, F⟩ := T.says.def_ 12 (d := mdef "Failed" "__init__" "Failed.__init__" (meth 62 0)) rfl
  have sc := sc_ini_Failed
  exact ⟨fd, FunD.ok F sc (fun vs H Q E h => by obtain ⟨a, C, v, rfl, _⟩ := h; rfl) (fun cdv A outer s H vs Q E hr h => ⟨_, PSs.nox (pss_one (ps_ost (pv 0) (pv 1))), ini_pure h⟩), kbG F .app 1 ["at"] (fun _ _ _ _ _ _ us ws h1 h2 => match us, ws, h1, h2 with | [_], [_], _, _ => rfl), FunD.bindsN F fun _ _ _ _ _ _ us hl => match us, hl with | [_, _], _ => rfl⟩
theorem ok_ini_Failed {P : Program} {w : World} {K : PySem.W.Frag} {mg : Str → Option Value} {base : Heap} (T : Top P w K mg) : Mt P w K mg base 1 (He.ga K "Failed") "__init__" ["self", "at"] (iniSp K "at") := let ⟨fd, h1, _, h3⟩ := okk_ini_Failed T; ⟨fd, h1, h3⟩
theorem okq_ini_Failed {P : Program} {w : World} {K : PySem.W.Frag} {mg : Str → Option Value} {base : Heap} (T : Top P w K mg) : ∃ fd, FnOk P w K mg base CX0 1 (He.ma K (He.ga K "Failed") "__init__") fd ["self", "at"] (iniSp K "at") ∧ KBn K fd ["self", "at"] 1 ["at"] (KG.of .app) (KG.of .app) := let ⟨fd, h1, h2, _⟩ := okk_ini_Failed T; ⟨fd, h1, h2⟩
theorem sc_ini_NotClosed : FnScope ["self", "end"] ["self", "end"] (defScope (meth 67 0)) := ⟨rfl, rfl, rfl, by decide +kernel, rfl, by decide +kernel, by decide +kernel⟩
theorem okk_ini_NotClosed {P : Program} {w : World} {K : PySem.W.Frag} {mg : Str → Option Value} {base : Heap} (T : Top P w K mg) : ∃ fd, FnOk P w K mg base CX0 1 (He.ma K (He.ga K "NotClosed") "__init__") fd ["self", "end"] (iniSp K "end") ∧ KBn K fd ["self", "end"] 1 ["end"] (KG.of .app) (KG.of .app) ∧ L2.Binds K fd ["self", "end"] [] := by
  obtain ⟨fd, F⟩ := T.says.def_ 13 (d := mdef "NotClosed" "__init__" "NotClosed.__init__" (meth 67 0)) rfl
  have sc := sc_ini_NotClosed
  exact ⟨fd, FunD.ok F sc (fun vs H Q E h => by obtain ⟨a, C, v, rfl, _⟩ := h; rfl) (fun cdv A outer s H vs Q E hr h => ⟨_, PSs.nox (pss_one (ps_ost (pv 0) (pv 1))), ini_pure h⟩), kbG F .app 1 ["end"] (fun _ _ _ _ _ _ us ws h1 h2 => match us, ws, h1, h2 with | [_], [_], _, _ => rfl), FunD.bindsN F fun _ _ _ _ _ _ us hl => match us, hl with | [_, _], _ => rfl⟩
theorem ok_ini_NotClosed {P : Program} {w : World} {K : PySem.W.Frag} {mg : Str → Option Value} {base : Heap} (T : Top P w K mg) : Mt P w K mg base 1 (He.ga K "NotClosed") "__init__" ["self", "end"] (iniSp K "end") := let ⟨fd, h1, _, h3⟩ := okk_ini_NotClosed T; ⟨fd, h1, h3⟩
theorem okq_ini_NotClosed {P : Program} {w : World} {K : PySem.W.Frag} {mg : Str → Option Value} {base : Heap} (T : Top P w K mg) : ∃ fd, FnOk P w K mg base CX0 1 (He.ma K (He.ga K "NotClosed") "__init__") fd ["self", "end"] (iniSp K "end") ∧ KBn K fd ["self", "end"] 1 ["end"] (KG.of .app) (KG.of .app) := let ⟨fd, h1, h2, _⟩ := okk_ini_NotClosed T; ⟨fd, h1, h2⟩
theorem sc_ini_Quarrels : FnScope ["self", "lot"] ["self", "lot"] (defScope (meth 75 0)) := ⟨rfl, rfl, rfl, by decide +kernel, rfl, by decide +kernel, by decide +kernel⟩
theorem okk_ini_Quarrels {P : Program} {w : World} {K : PySem.W.Frag} {mg : Str → Option Value} {base : Heap} (T : Top P w K mg) : ∃ fd, FnOk P w K mg base CX0 1 (He.ma K (He.ga K "Quarrels") "__init__") fd ["self", "lot"] (iniSp K "lot") ∧ KBn K fd ["self", "lot"] 1 ["lot"] (KG.of .app) (KG.of .app) ∧ L2.Binds K fd ["self", "lot"] [] := by
  obtain ⟨fd, F⟩ := T.says.def_ 14 (d := mdef "Quarrels" "__init__" "Quarrels.__init__" (meth 75 0)) rfl
  have sc := sc_ini_Quarrels
  exact ⟨fd, FunD.ok F sc (fun vs H Q E h => by obtain ⟨a, C, v, rfl, _⟩ := h; rfl) (fun cdv A outer s H vs Q E hr h => ⟨_, PSs.nox (pss_one (ps_ost (pv 0) (pv 1))), ini_pure h⟩), kbG F .app 1 ["lot"] (fun _ _ _ _ _ _ us ws h1 h2 => match us, ws, h1, h2 with | [_], [_], _, _ => rfl), FunD.bindsN F fun _ _ _ _ _ _ us hl => match us, hl with | [_, _], _ => rfl⟩
theorem ok_ini_Quarrels {P : Program} {w : World} {K : PySem.W.Frag} {mg : Str → Option Value} {base : Heap} (T : Top P w K mg) : Mt P w K mg base 1 (He.ga K "Quarrels") "__init__" ["self", "lot"] (iniSp K "lot") := let ⟨fd, h1, _, h3⟩ := okk_ini_Quarrels T; ⟨fd, h1, h3⟩
theorem okq_ini_Quarrels {P : Program} {w : World} {K : PySem.W.Frag} {mg : Str → Option Value} {base : Heap} (T : Top P w K mg) : ∃ fd, FnOk P w K mg base CX0 1 (He.ma K (He.ga K "Quarrels") "__init__") fd ["self", "lot"] (iniSp K "lot") ∧ KBn K fd ["self", "lot"] 1 ["lot"] (KG.of .app) (KG.of .app) := let ⟨fd, h1, h2, _⟩ := okk_ini_Quarrels T; ⟨fd, h1, h2⟩
theorem sc_ini_TooMany : FnScope ["self", "most"] ["self", "most"] (defScope (meth 76 0)) := ⟨rfl, rfl, rfl, by decide +kernel, rfl, by decide +kernel, by decide +kernel⟩
theorem okk_ini_TooMany {P : Program} {w : World} {K : PySem.W.Frag} {mg : Str → Option Value} {base : Heap} (T : Top P w K mg) : ∃ fd, FnOk P w K mg base CX0 1 (He.ma K (He.ga K "TooMany") "__init__") fd ["self", "most"] (iniSp K "most") ∧ KBn K fd ["self", "most"] 1 ["most"] (KG.of .app) (KG.of .app) ∧ L2.Binds K fd ["self", "most"] [] := by
  obtain ⟨fd, F⟩ := T.says.def_ 15 (d := mdef "TooMany" "__init__" "TooMany.__init__" (meth 76 0)) rfl
  have sc := sc_ini_TooMany
  exact ⟨fd, FunD.ok F sc (fun vs H Q E h => by obtain ⟨a, C, v, rfl, _⟩ := h; rfl) (fun cdv A outer s H vs Q E hr h => ⟨_, PSs.nox (pss_one (ps_ost (pv 0) (pv 1))), ini_pure h⟩), kbG F .app 1 ["most"] (fun _ _ _ _ _ _ us ws h1 h2 => match us, ws, h1, h2 with | [_], [_], _, _ => rfl), FunD.bindsN F fun _ _ _ _ _ _ us hl => match us, hl with | [_, _], _ => rfl⟩
theorem ok_ini_TooMany {P : Program} {w : World} {K : PySem.W.Frag} {mg : Str → Option Value} {base : Heap} (T : Top P w K mg) : Mt P w K mg base 1 (He.ga K "TooMany") "__init__" ["self", "most"] (iniSp K "most") := let ⟨fd, h1, _, h3⟩ := okk_ini_TooMany T; ⟨fd, h1, h3⟩
theorem okq_ini_TooMany {P : Program} {w : World} {K : PySem.W.Frag} {mg : Str → Option Value} {base : Heap} (T : Top P w K mg) : ∃ fd, FnOk P w K mg base CX0 1 (He.ma K (He.ga K "TooMany") "__init__") fd ["self", "most"] (iniSp K "most") ∧ KBn K fd ["self", "most"] 1 ["most"] (KG.of .app) (KG.of .app) := let ⟨fd, h1, h2, _⟩ := okk_ini_TooMany T; ⟨fd, h1, h2⟩
def toD (K : PySem.W.Frag) (x : D) (p : Str × Str) : D := .op (exaD (He.ga K p.1) p.2 x)
def toldE (K : PySem.W.Frag) (x : D) (p : Str × Str) : D := .tup [toD K x p, toD K x p, x, x]
def w_law_told_errors (K : PySem.W.Frag) : PW := fun ds C => ∃ x, ds = [x] ∧ C (.lst (ern.told.map (toldE K x)))
def r_law_told_errors (K : PySem.W.Frag) : DS := (dSeq (dAsgO (dNewL dNil) 1) (dSeq (dAppO 1 (dTup (dCons (dExa K (He.ga K "BadDrift") "step" (dVar 0)) (dCons (dExa K (He.ga K "BadDrift") "step" (dVar 0)) (dCons (dXa (He.ga K "BadDrift") "step" (dExa K (He.ga K "BadDrift") "step" (dVar 0))) (dCons (dXa (He.ga K "BadDrift") "step" (dExa K (He.ga K "BadDrift") "step" (dVar 0))) dNil)))))) (dSeq (dAppO 1 (dTup (dCons (dExa K (He.ga K "BadNumber") "part" (dVar 0)) (dCons (dExa K (He.ga K "BadNumber") "part" (dVar 0)) (dCons (dXa (He.ga K "BadNumber") "part" (dExa K (He.ga K "BadNumber") "part" (dVar 0))) (dCons (dXa (He.ga K "BadNumber") "part" (dExa K (He.ga K "BadNumber") "part" (dVar 0))) dNil)))))) (dSeq (dAppO 1 (dTup (dCons (dExa K (He.ga K "BadText") "line" (dVar 0)) (dCons (dExa K (He.ga K "BadText") "line" (dVar 0)) (dCons (dXa (He.ga K "BadText") "line" (dExa K (He.ga K "BadText") "line" (dVar 0))) (dCons (dXa (He.ga K "BadText") "line" (dExa K (He.ga K "BadText") "line" (dVar 0))) dNil)))))) (dSeq (dAppO 1 (dTup (dCons (dExa K (He.ga K "Failed") "at" (dVar 0)) (dCons (dExa K (He.ga K "Failed") "at" (dVar 0)) (dCons (dXa (He.ga K "Failed") "at" (dExa K (He.ga K "Failed") "at" (dVar 0))) (dCons (dXa (He.ga K "Failed") "at" (dExa K (He.ga K "Failed") "at" (dVar 0))) dNil)))))) (dSeq (dAppO 1 (dTup (dCons (dExa K (He.ga K "NotClosed") "end" (dVar 0)) (dCons (dExa K (He.ga K "NotClosed") "end" (dVar 0)) (dCons (dXa (He.ga K "NotClosed") "end" (dExa K (He.ga K "NotClosed") "end" (dVar 0))) (dCons (dXa (He.ga K "NotClosed") "end" (dExa K (He.ga K "NotClosed") "end" (dVar 0))) dNil)))))) (dSeq (dAppO 1 (dTup (dCons (dExa K (He.ga K "Quarrels") "lot" (dVar 0)) (dCons (dExa K (He.ga K "Quarrels") "lot" (dVar 0)) (dCons (dXa (He.ga K "Quarrels") "lot" (dExa K (He.ga K "Quarrels") "lot" (dVar 0))) (dCons (dXa (He.ga K "Quarrels") "lot" (dExa K (He.ga K "Quarrels") "lot" (dVar 0))) dNil)))))) (dSeq (dAppO 1 (dTup (dCons (dExa K (He.ga K "TooMany") "most" (dVar 0)) (dCons (dExa K (He.ga K "TooMany") "most" (dVar 0)) (dCons (dXa (He.ga K "TooMany") "most" (dExa K (He.ga K "TooMany") "most" (dVar 0))) (dCons (dXa (He.ga K "TooMany") "most" (dExa K (He.ga K "TooMany") "most" (dVar 0))) dNil)))))) (dFrz 1 (dRet (dVar 1)))))))))))
theorem body_law_told_errors {P : Program} {w : World} {K : PySem.W.Frag} {mg : Str → Option Value} (T : Top P w K mg) : ∀ (as : List D) (C : D → Prop), as.length = 1 → w_law_told_errors K as C → r_law_told_errors K (env0 (["thing", "found"].length - 1) as) { nx := fun _ => C .non, rt := fun d _ => C d } := by
  rintro as C _ ⟨x, rfl, h⟩
  have ie : ∀ {env : Lf.Env} (p : Str × Str), p ∈ ern.told → env[0]? = some (some (.d x)) → Ev (dTup (dCons (dExa K (He.ga K p.1) p.2 (dVar 0)) (dCons (dExa K (He.ga K p.1) p.2 (dVar 0)) (dCons (dXa (He.ga K p.1) p.2 (dExa K (He.ga K p.1) p.2 (dVar 0))) (dCons (dXa (He.ga K p.1) p.2 (dExa K (He.ga K p.1) p.2 (dVar 0))) dNil))))) env (toldE K x p) := fun p hp he => by
    have i := T.er.ini p hp
    have e1 := ev_exa (K := K) (C := He.ga K p.1) (f := p.2) (ev_var he) i.oex i.no
    exact ev_tup (ea_cons e1 (ea_cons e1 (ea_cons (ev_xa e1) (ea_cons (ev_xa e1) ea_nil)))) (by show 4 ≤ 100000; decide)
  refine st_seq (st_asgO (T := fun l => l = []) (ea_newL ea_nil (by decide)) (by rfl) fun xs hx => ?_)
  subst hx
  refine st_seq (st_app (xs := []) (by rfl) (ie ("BadDrift", "step") (by decide +kernel) (by rfl)) (by show 0 < 100000; decide) fun d hd => ?_)
  subst hd
  refine st_seq (st_app (xs := [toldE K x ("BadDrift", "step")]) (by rfl) (ie ("BadNumber", "part") (by decide +kernel) (by rfl)) (by show 1 < 100000; decide) fun d hd => ?_)
  subst hd
  refine st_seq (st_app (xs := [toldE K x ("BadDrift", "step"), toldE K x ("BadNumber", "part")]) (by rfl) (ie ("BadText", "line") (by decide +kernel) (by rfl)) (by show 2 < 100000; decide) fun d hd => ?_)
  subst hd
  refine st_seq (st_app (xs := [toldE K x ("BadDrift", "step"), toldE K x ("BadNumber", "part"), toldE K x ("BadText", "line")]) (by rfl) (ie ("Failed", "at") (by decide +kernel) (by rfl)) (by show 3 < 100000; decide) fun d hd => ?_)
  subst hd
  refine st_seq (st_app (xs := [toldE K x ("BadDrift", "step"), toldE K x ("BadNumber", "part"), toldE K x ("BadText", "line"), toldE K x ("Failed", "at")]) (by rfl) (ie ("NotClosed", "end") (by decide +kernel) (by rfl)) (by show 4 < 100000; decide) fun d hd => ?_)
  subst hd
  refine st_seq (st_app (xs := [toldE K x ("BadDrift", "step"), toldE K x ("BadNumber", "part"), toldE K x ("BadText", "line"), toldE K x ("Failed", "at"), toldE K x ("NotClosed", "end")]) (by rfl) (ie ("Quarrels", "lot") (by decide +kernel) (by rfl)) (by show 5 < 100000; decide) fun d hd => ?_)
  subst hd
  refine st_seq (st_app (xs := [toldE K x ("BadDrift", "step"), toldE K x ("BadNumber", "part"), toldE K x ("BadText", "line"), toldE K x ("Failed", "at"), toldE K x ("NotClosed", "end"), toldE K x ("Quarrels", "lot")]) (by rfl) (ie ("TooMany", "most") (by decide +kernel) (by rfl)) (by show 6 < 100000; decide) fun d hd => ?_)
  subst hd
  refine st_frz (xs := ern.told.map (toldE K x)) (by rfl) ?_
  exact st_ret1 (ev_var (by rfl)) h
section
variable {P : Program} {w : World} {K : PySem.W.Frag} {mg : Str → Option Value} {base : Heap}
theorem sc_law_told_errors : FnScope ["thing", "found"] ["thing"] (defScope (top 87)) := ⟨rfl, rfl, rfl, by decide +kernel, rfl, by decide +kernel, by decide +kernel⟩
theorem ok_law_told_errors (T : Top P w K mg) : Fn P w K mg base 3 "_law_told_errors" ["thing"] (PSp 1 (w_law_told_errors K)) := by
  obtain ⟨fd, F⟩ := T.fn 6 (x := "_law_told_errors") (st := (top 87)) rfl
  have sc := sc_law_told_errors
  have tm : ∀ x, x ∈ frees → mg x = none := fun x hx => T.free x (mem_free hx)
  refine ⟨⟨fd, F.ok sc (fun vs H Q E h => h.len) (fun cdv A outer s H vs Q E hr h => ?d), F.bindsN fun _ _ _ _ _ _ us hl => match us, hl with | [_], _ => rfl⟩, T.glo "_law_told_errors" (mem_glo (by decide +kernel)), F.kp⟩
  exact ⟨_, PSs.nox (pss_cons (ps_own (ps_set (i := 1) sc.nd rfl (by first | exact Or.inl rfl | exact Or.inr rfl) (pe_lst pa_nil))) (pss_cons (ps_appO (K := K) (ps_expr (pe_bm PySem.F.plainAttrs_list PySem.F.slot_list_append PySem.F.type_list_append mt_append (pv 1) (pa_cons (pe_tup (pa_cons (pe_oexG (K := K) rfl (T.er.ini ("BadDrift", "step") (by decide +kernel)) (ok_ini_BadDrift T) (T.glo "BadDrift" (mem_glo (by decide +kernel))) (hr.mono (by decide)) (by rfl) (pv 0)) (pa_cons (pe_oexK (K := K) (n := "step") (apos := ⟨0, 0, 0, 0⟩) rfl (T.er.ini ("BadDrift", "step") (by decide +kernel)) (okq_ini_BadDrift T) (T.glo "BadDrift" (mem_glo (by decide +kernel))) (hr.mono (by decide)) (by rfl) (pk_cons (pv 0) pk_nil)) (pa_cons (pe_xv (D := He.ga K "BadDrift") (T.er.xf "BadDrift" (by decide +kernel)) (T.er.ini ("BadDrift", "step") (by decide +kernel)).no (pe_oexG (K := K) rfl (T.er.ini ("BadDrift", "step") (by decide +kernel)) (ok_ini_BadDrift T) (T.glo "BadDrift" (mem_glo (by decide +kernel))) (hr.mono (by decide)) (by rfl) (pv 0))) (pa_cons (pe_xv (D := He.ga K "BadDrift") (T.er.xf "BadDrift" (by decide +kernel)) (T.er.ini ("BadDrift", "step") (by decide +kernel)).no (pe_oexK (K := K) (n := "step") (apos := ⟨0, 0, 0, 0⟩) rfl (T.er.ini ("BadDrift", "step") (by decide +kernel)) (okq_ini_BadDrift T) (T.glo "BadDrift" (mem_glo (by decide +kernel))) (hr.mono (by decide)) (by rfl) (pk_cons (pv 0) pk_nil))) pa_nil))))) pa_nil)))) (pss_cons (ps_appO (K := K) (ps_expr (pe_bm PySem.F.plainAttrs_list PySem.F.slot_list_append PySem.F.type_list_append mt_append (pv 1) (pa_cons (pe_tup (pa_cons (pe_oexG (K := K) rfl (T.er.ini ("BadNumber", "part") (by decide +kernel)) (ok_ini_BadNumber T) (T.glo "BadNumber" (mem_glo (by decide +kernel))) (hr.mono (by decide)) (by rfl) (pv 0)) (pa_cons (pe_oexK (K := K) (n := "part") (apos := ⟨0, 0, 0, 0⟩) rfl (T.er.ini ("BadNumber", "part") (by decide +kernel)) (okq_ini_BadNumber T) (T.glo "BadNumber" (mem_glo (by decide +kernel))) (hr.mono (by decide)) (by rfl) (pk_cons (pv 0) pk_nil)) (pa_cons (pe_xv (D := He.ga K "BadNumber") (T.er.xf "BadNumber" (by decide +kernel)) (T.er.ini ("BadNumber", "part") (by decide +kernel)).no (pe_oexG (K := K) rfl (T.er.ini ("BadNumber", "part") (by decide +kernel)) (ok_ini_BadNumber T) (T.glo "BadNumber" (mem_glo (by decide +kernel))) (hr.mono (by decide)) (by rfl) (pv 0))) (pa_cons (pe_xv (D := He.ga K "BadNumber") (T.er.xf "BadNumber" (by decide +kernel)) (T.er.ini ("BadNumber", "part") (by decide +kernel)).no (pe_oexK (K := K) (n := "part") (apos := ⟨0, 0, 0, 0⟩) rfl (T.er.ini ("BadNumber", "part") (by decide +kernel)) (okq_ini_BadNumber T) (T.glo "BadNumber" (mem_glo (by decide +kernel))) (hr.mono (by decide)) (by rfl) (pk_cons (pv 0) pk_nil))) pa_nil))))) pa_nil)))) (pss_cons (ps_appO (K := K) (ps_expr (pe_bm PySem.F.plainAttrs_list PySem.F.slot_list_append PySem.F.type_list_append mt_append (pv 1) (pa_cons (pe_tup (pa_cons (pe_oexG (K := K) rfl (T.er.ini ("BadText", "line") (by decide +kernel)) (ok_ini_BadText T) (T.glo "BadText" (mem_glo (by decide +kernel))) (hr.mono (by decide)) (by rfl) (pv 0)) (pa_cons (pe_oexK (K := K) (n := "line") (apos := ⟨0, 0, 0, 0⟩) rfl (T.er.ini ("BadText", "line") (by decide +kernel)) (okq_ini_BadText T) (T.glo "BadText" (mem_glo (by decide +kernel))) (hr.mono (by decide)) (by rfl) (pk_cons (pv 0) pk_nil)) (pa_cons (pe_xv (D := He.ga K "BadText") (T.er.xf "BadText" (by decide +kernel)) (T.er.ini ("BadText", "line") (by decide +kernel)).no (pe_oexG (K := K) rfl (T.er.ini ("BadText", "line") (by decide +kernel)) (ok_ini_BadText T) (T.glo "BadText" (mem_glo (by decide +kernel))) (hr.mono (by decide)) (by rfl) (pv 0))) (pa_cons (pe_xv (D := He.ga K "BadText") (T.er.xf "BadText" (by decide +kernel)) (T.er.ini ("BadText", "line") (by decide +kernel)).no (pe_oexK (K := K) (n := "line") (apos := ⟨0, 0, 0, 0⟩) rfl (T.er.ini ("BadText", "line") (by decide +kernel)) (okq_ini_BadText T) (T.glo "BadText" (mem_glo (by decide +kernel))) (hr.mono (by decide)) (by rfl) (pk_cons (pv 0) pk_nil))) pa_nil))))) pa_nil)))) (pss_cons (ps_appO (K := K) (ps_expr (pe_bm PySem.F.plainAttrs_list PySem.F.slot_list_append PySem.F.type_list_append mt_append (pv 1) (pa_cons (pe_tup (pa_cons (pe_oexG (K := K) rfl (T.er.ini ("Failed", "at") (by decide +kernel)) (ok_ini_Failed T) (T.glo "Failed" (mem_glo (by decide +kernel))) (hr.mono (by decide)) (by rfl) (pv 0)) (pa_cons (pe_oexK (K := K) (n := "at") (apos := ⟨0, 0, 0, 0⟩) rfl (T.er.ini ("Failed", "at") (by decide +kernel)) (okq_ini_Failed T) (T.glo "Failed" (mem_glo (by decide +kernel))) (hr.mono (by decide)) (by rfl) (pk_cons (pv 0) pk_nil)) (pa_cons (pe_xv (D := He.ga K "Failed") (T.er.xf "Failed" (by decide +kernel)) (T.er.ini ("Failed", "at") (by decide +kernel)).no (pe_oexG (K := K) rfl (T.er.ini ("Failed", "at") (by decide +kernel)) (ok_ini_Failed T) (T.glo "Failed" (mem_glo (by decide +kernel))) (hr.mono (by decide)) (by rfl) (pv 0))) (pa_cons (pe_xv (D := He.ga K "Failed") (T.er.xf "Failed" (by decide +kernel)) (T.er.ini ("Failed", "at") (by decide +kernel)).no (pe_oexK (K := K) (n := "at") (apos := ⟨0, 0, 0, 0⟩) rfl (T.er.ini ("Failed", "at") (by decide +kernel)) (okq_ini_Failed T) (T.glo "Failed" (mem_glo (by decide +kernel))) (hr.mono (by decide)) (by rfl) (pk_cons (pv 0) pk_nil))) pa_nil))))) pa_nil)))) (pss_cons (ps_appO (K := K) (ps_expr (pe_bm PySem.F.plainAttrs_list PySem.F.slot_list_append PySem.F.type_list_append mt_append (pv 1) (pa_cons (pe_tup (pa_cons (pe_oexG (K := K) rfl (T.er.ini ("NotClosed", "end") (by decide +kernel)) (ok_ini_NotClosed T) (T.glo "NotClosed" (mem_glo (by decide +kernel))) (hr.mono (by decide)) (by rfl) (pv 0)) (pa_cons (pe_oexK (K := K) (n := "end") (apos := ⟨0, 0, 0, 0⟩) rfl (T.er.ini ("NotClosed", "end") (by decide +kernel)) (okq_ini_NotClosed T) (T.glo "NotClosed" (mem_glo (by decide +kernel))) (hr.mono (by decide)) (by rfl) (pk_cons (pv 0) pk_nil)) (pa_cons (pe_xv (D := He.ga K "NotClosed") (T.er.xf "NotClosed" (by decide +kernel)) (T.er.ini ("NotClosed", "end") (by decide +kernel)).no (pe_oexG (K := K) rfl (T.er.ini ("NotClosed", "end") (by decide +kernel)) (ok_ini_NotClosed T) (T.glo "NotClosed" (mem_glo (by decide +kernel))) (hr.mono (by decide)) (by rfl) (pv 0))) (pa_cons (pe_xv (D := He.ga K "NotClosed") (T.er.xf "NotClosed" (by decide +kernel)) (T.er.ini ("NotClosed", "end") (by decide +kernel)).no (pe_oexK (K := K) (n := "end") (apos := ⟨0, 0, 0, 0⟩) rfl (T.er.ini ("NotClosed", "end") (by decide +kernel)) (okq_ini_NotClosed T) (T.glo "NotClosed" (mem_glo (by decide +kernel))) (hr.mono (by decide)) (by rfl) (pk_cons (pv 0) pk_nil))) pa_nil))))) pa_nil)))) (pss_cons (ps_appO (K := K) (ps_expr (pe_bm PySem.F.plainAttrs_list PySem.F.slot_list_append PySem.F.type_list_append mt_append (pv 1) (pa_cons (pe_tup (pa_cons (pe_oexG (K := K) rfl (T.er.ini ("Quarrels", "lot") (by decide +kernel)) (ok_ini_Quarrels T) (T.glo "Quarrels" (mem_glo (by decide +kernel))) (hr.mono (by decide)) (by rfl) (pv 0)) (pa_cons (pe_oexK (K := K) (n := "lot") (apos := ⟨0, 0, 0, 0⟩) rfl (T.er.ini ("Quarrels", "lot") (by decide +kernel)) (okq_ini_Quarrels T) (T.glo "Quarrels" (mem_glo (by decide +kernel))) (hr.mono (by decide)) (by rfl) (pk_cons (pv 0) pk_nil)) (pa_cons (pe_xv (D := He.ga K "Quarrels") (T.er.xf "Quarrels" (by decide +kernel)) (T.er.ini ("Quarrels", "lot") (by decide +kernel)).no (pe_oexG (K := K) rfl (T.er.ini ("Quarrels", "lot") (by decide +kernel)) (ok_ini_Quarrels T) (T.glo "Quarrels" (mem_glo (by decide +kernel))) (hr.mono (by decide)) (by rfl) (pv 0))) (pa_cons (pe_xv (D := He.ga K "Quarrels") (T.er.xf "Quarrels" (by decide +kernel)) (T.er.ini ("Quarrels", "lot") (by decide +kernel)).no (pe_oexK (K := K) (n := "lot") (apos := ⟨0, 0, 0, 0⟩) rfl (T.er.ini ("Quarrels", "lot") (by decide +kernel)) (okq_ini_Quarrels T) (T.glo "Quarrels" (mem_glo (by decide +kernel))) (hr.mono (by decide)) (by rfl) (pk_cons (pv 0) pk_nil))) pa_nil))))) pa_nil)))) (pss_cons (ps_appO (K := K) (ps_expr (pe_bm PySem.F.plainAttrs_list PySem.F.slot_list_append PySem.F.type_list_append mt_append (pv 1) (pa_cons (pe_tup (pa_cons (pe_oexG (K := K) rfl (T.er.ini ("TooMany", "most") (by decide +kernel)) (ok_ini_TooMany T) (T.glo "TooMany" (mem_glo (by decide +kernel))) (hr.mono (by decide)) (by rfl) (pv 0)) (pa_cons (pe_oexK (K := K) (n := "most") (apos := ⟨0, 0, 0, 0⟩) rfl (T.er.ini ("TooMany", "most") (by decide +kernel)) (okq_ini_TooMany T) (T.glo "TooMany" (mem_glo (by decide +kernel))) (hr.mono (by decide)) (by rfl) (pk_cons (pv 0) pk_nil)) (pa_cons (pe_xv (D := He.ga K "TooMany") (T.er.xf "TooMany" (by decide +kernel)) (T.er.ini ("TooMany", "most") (by decide +kernel)).no (pe_oexG (K := K) rfl (T.er.ini ("TooMany", "most") (by decide +kernel)) (ok_ini_TooMany T) (T.glo "TooMany" (mem_glo (by decide +kernel))) (hr.mono (by decide)) (by rfl) (pv 0))) (pa_cons (pe_xv (D := He.ga K "TooMany") (T.er.xf "TooMany" (by decide +kernel)) (T.er.ini ("TooMany", "most") (by decide +kernel)).no (pe_oexK (K := K) (n := "most") (apos := ⟨0, 0, 0, 0⟩) rfl (T.er.ini ("TooMany", "most") (by decide +kernel)) (okq_ini_TooMany T) (T.glo "TooMany" (mem_glo (by decide +kernel))) (hr.mono (by decide)) (by rfl) (pk_cons (pv 0) pk_nil))) pa_nil))))) pa_nil)))) (pss_frz 1 (pss_one (ps_ret (pv 1)))))))))))), ps_body h (ds := (r_law_told_errors K)) inferInstance (body_law_told_errors T)⟩

end
end K00
set_option Elab.async false
set_option linter.all false
set_option maxRecDepth 100000
set_option maxHeartbeats 4000000
set_option synthInstance.maxHeartbeats 4000000
set_option synthInstance.maxSize 100000
namespace K00
open PySem PySem.Spec PyProof.Rows L2 RZ Lf
/-- a value whose text can be told -/
def Thing (K : PySem.W.Frag) (x : D) : Prop := ∃ d : PyData, ShD K x d ∧ (PyData.list [d, d]).showable = true ∧ (PyData.list [d, d]).depth ≤ 60 ∧ (PyData.list [d, d]).shown.length ≤ sizeLine
def things : List D := [.non, .bl false, .bl true, .int (-5), .int 1000000000000000000000000000000, .str "", .str "two words", .lst [], .lst [.tup [.int 1, .int 2]], .tup [], .tup [.int 4], .op (dctD []), .op (dctD [("a", .tup [.int 1])]), .lst [.lst [.non]]]
theorem thing_pln {K : PySem.W.Frag} {x : D} (h : x.toP.hasDict = false) (h1 : (PyData.list [x.toP, x.toP]).showable = true) (h2 : (PyData.list [x.toP, x.toP]).depth ≤ 60) (h3 : (PyData.list [x.toP, x.toP]).shown.length ≤ sizeLine) : Thing K x := ⟨_, shD_pln h, h1, h2, h3⟩
theorem things_ok {K : PySem.W.Frag} : ∀ x ∈ things, Thing K x := by
  unfold things
  simp only [List.forall_mem_cons, List.not_mem_nil, false_implies, implies_true, and_true]
  refine ⟨?_, ?_, ?_, ?_, ?_, ?_, ?_, ?_, ?_, ?_, ?_, ?_, ?_, ?_⟩
  · exact thing_pln (by decide +kernel) (by decide +kernel) (by decide +kernel) (by decide +kernel)
  · exact thing_pln (by decide +kernel) (by decide +kernel) (by decide +kernel) (by decide +kernel)
  · exact thing_pln (by decide +kernel) (by decide +kernel) (by decide +kernel) (by decide +kernel)
  · exact thing_pln (by decide +kernel) (by decide +kernel) (by decide +kernel) (by decide +kernel)
  · exact thing_pln (by decide +kernel) (by decide +kernel) (by decide +kernel) (by decide +kernel)
  · exact thing_pln (by decide +kernel) (by decide +kernel) (by decide +kernel) (by decide +kernel)
  · exact thing_pln (by decide +kernel) (by decide +kernel) (by decide +kernel) (by decide +kernel)
  · exact thing_pln (by decide +kernel) (by decide +kernel) (by decide +kernel) (by decide +kernel)
  · exact thing_pln (by decide +kernel) (by decide +kernel) (by decide +kernel) (by decide +kernel)
  · exact thing_pln (by decide +kernel) (by decide +kernel) (by decide +kernel) (by decide +kernel)
  · exact thing_pln (by decide +kernel) (by decide +kernel) (by decide +kernel) (by decide +kernel)
  · exact ⟨_, shD_nil, by decide +kernel, by decide +kernel, by decide +kernel⟩
  · exact ⟨_, shD_one, by decide +kernel, by decide +kernel, by decide +kernel⟩
  · exact thing_pln (by decide +kernel) (by decide +kernel) (by decide +kernel) (by decide +kernel)
def w_law_any (K : PySem.W.Frag) : OW := fun w ds C => w = drw ∧ ds = [] ∧ ∀ x, Thing K x → C x drw
def r_law_any (K : PySem.W.Frag) : DS := (dSeq (dAsg (dLst (dCons (dC .non) (dCons (dC (.bl false)) (dCons (dC (.bl true)) (dCons (dUn (dI1 fun i => -i) (dC (.int 5))) (dCons (dOp (rIIc CPow fun i j => i ^ j.toNat) (dC (.int 10)) (dC (.int 30))) (dCons (dC (.str "")) (dCons (dC (.str "two words")) (dCons (dLst dNil) (dCons (dLst (dCons (dTup (dCons (dC (.int 1)) (dCons (dC (.int 2)) dNil))) dNil)) (dCons (dTup dNil) (dCons (dTup (dCons (dC (.int 4)) dNil)) (dCons dDNew (dCons (dDOne "a" (dTup (dCons (dC (.int 1)) dNil))) (dCons (dLst (dCons (dLst (dCons (dC .non) dNil)) dNil)) dNil))))))))))))))) (dgN 1)) (dRet (dCallO 2 w_law_pick 0 (dCons (dVar 1) dNil))))
theorem body_law_any {P : Program} {w0 : World} {K : PySem.W.Frag} {mg : Str → Option Value} (T : Top P w0 K mg) : ∀ (w : Ow) (as : List D) (C : D → Ow → Prop), as.length + 1 = 1 → w_law_any K w as C →
    r_law_any K (some (.o w) :: env0 (["draw", "some"].length - 1) as) { nx := fun env' => ∃ w', env'[0]? = some (some (.o w')) ∧ C .non w', rt := fun d env' => ∃ w', env'[0]? = some (some (.o w')) ∧ C d w' } := by
  rintro w as C _ ⟨rfl, rfl, h⟩
  refine st_seq (st_asg1 (d := .lst things) (ev_lst (ea_cons ev_c (ea_cons ev_c (ea_cons ev_c (ea_cons (ev_un (x := .int 5) ev_c fun C k => ⟨5, rfl, k⟩) (ea_cons (ev_op (z := .int 1000000000000000000000000000000) ev_c ev_c fun C k => ⟨10, 30, rfl, rfl, ⟨by decide, by decide, by decide⟩, ?_⟩)
    (ea_cons ev_c (ea_cons ev_c (ea_cons (ev_lst ea_nil (by decide)) (ea_cons (ev_lst (ea_cons (ev_tup (ea_cons ev_c (ea_cons ev_c ea_nil)) (by show 2 ≤ 100000; decide)) ea_nil) (by show 1 ≤ 100000; decide)) (ea_cons (ev_tup ea_nil (by decide)) (ea_cons (ev_tup (ea_cons ev_c ea_nil) (by show 1 ≤ 100000; decide))
    (ea_cons ev_dNew (ea_cons (ev_dOne (ev_tup (ea_cons ev_c ea_nil) (by show 1 ≤ 100000; decide))) (ea_cons (ev_lst (ea_cons (ev_lst (ea_cons ev_c ea_nil) (by show 1 ≤ 100000; decide)) ea_nil) (by show 1 ≤ 100000; decide)) ea_nil)))))))))))))) (by show 14 ≤ 100000; decide)) (by rfl) ?_)
  · have e : (10 : Int) ^ (30 : Int).toNat = 1000000000000000000000000000000 := by decide +kernel
    show C (.int ((10 : Int) ^ (30 : Int).toNat))
    rw [e]; exact k
  · refine st_ret (S := Thing K) (es_callO (w := drw) (by rfl) (ea_cons (ev_var (by rfl)) ea_nil) rfl fun C q => ⟨rfl, .lst things, _, things, rfl, rfl, by decide, by decide, fun y hy => q _ (things_ok y hy)⟩) fun d hd => ⟨drw, by rfl, h d hd⟩
section
variable {P : Program} {w : World} {K : PySem.W.Frag} {mg : Str → Option Value} {base : Heap}
theorem sc_law_any : FnScope ["draw", "some"] ["draw"] (defScope (top 88)) := ⟨rfl, rfl, rfl, by decide +kernel, rfl, by decide +kernel, by decide +kernel⟩
theorem ok_law_any (T : Top P w K mg) : Fn P w K mg base 4 "_law_any" ["draw"] (OSp 1 (w_law_any K)) := by
  obtain ⟨fd, F⟩ := T.fn 7 (x := "_law_any") (st := (top 88)) rfl
  have sc := sc_law_any
  have tm : ∀ x, x ∈ frees → mg x = none := fun x hx => T.free x (mem_free hx)
  refine ⟨⟨fd, F.ok sc (fun vs H Q E h => h.len) (fun cdv A outer s H vs Q E hr h => ?d), F.bindsN fun _ _ _ _ _ _ us hl => match us, hl with | [_], _ => rfl⟩, T.glo "_law_any" (mem_glo (by decide +kernel)), F.kp⟩
  exact ⟨_, PSs.nox (pss_cons (ps_set (i := 1) sc.nd rfl (by first | exact Or.inl rfl | exact Or.inr rfl) (pe_lst (pa_cons pe_non (pa_cons pe_bl (pa_cons pe_bl (pa_cons (pe_un un_neg pe_int) (pa_cons (pe_op op_pow pe_int pe_int) (pa_cons pe_str (pa_cons pe_str (pa_cons (pe_lst pa_nil) (pa_cons (pe_lst (pa_cons (pe_tup (pa_cons pe_int (pa_cons pe_int pa_nil))) pa_nil)) (pa_cons (pe_tup pa_nil) (pa_cons (pe_tup (pa_cons pe_int pa_nil)) (pa_cons pe_dnewK (pa_cons (pe_disp (pps_cons pe_str (pe_tup (pa_cons pe_int pa_nil)) pps_nil) rfl rfl (by exact fun z => by cases z) (by decide)) (pa_cons (pe_lst (pa_cons (pe_lst (pa_cons pe_non pa_nil)) pa_nil)) pa_nil)))))))))))))))) (pss_one (ps_ret (pe_fO (ok_law_pick T) hr (by rfl) 0 (pa_cons (pv 0) (pa_cons (pv 1) pa_nil)))))), os_body h (ds := (r_law_any K)) inferInstance (body_law_any T)⟩

end
end K00
set_option Elab.async false
set_option linter.all false
set_option maxRecDepth 100000
set_option maxHeartbeats 4000000
set_option synthInstance.maxHeartbeats 4000000
set_option synthInstance.maxSize 100000
namespace K00
open PySem PySem.Spec PyProof.Rows L2 RZ Lf
/-! the law -/
theorem ea_two {env : Lf.Env} {a b : DE} {S T : D → Prop} (h : Es a env S) (h2 : Es b env T) : Ea (dCons a (dCons b dNil)) env fun l => ∃ x y, S x ∧ T y ∧ l = [x, y] := fun C k => h _ fun x hx => h2 _ fun y hy => k _ ⟨x, y, hx, hy, rfl⟩
theorem es_tupT {env : Lf.Env} {da : DA} {T : List D → Prop} {S : D → Prop} (h : Ea da env T) (k : ∀ ds, T ds → ds.length ≤ 100000 ∧ S (.tup ds)) : Es (dTup da) env S := fun C q => h _ fun ds e => ⟨(k ds e).1, q _ (k ds e).2⟩
theorem st_asgS {env : Lf.Env} {a : DE} {dg : DG} {S : D → Prop} {E : DEnds} (h : Es a env S) (k : ∀ d, S d → ∃ e2, Tg dg d env e2 ∧ E.nx e2) : dAsg a dg env E := h _ fun x hx => ⟨keepE_refl, let ⟨e2, f, q⟩ := k x hx; f _ q⟩
theorem flat_nil : flat 1 (.lst []) := flat_lst fun x hx => by simp at hx
theorem rv_neNil {C : D → Prop} (h : C (.bl false)) : dNeD (.lst []) (.lst []) C := rv_ne flat_nil.shp flat_nil.shp (by rw [dEq_nil]; rfl) h
theorem ev_lc0 {env : Lf.Env} {di : DI} {dg : DG} {js vs : List Nat} {dt : DT} {de : DE} {xs : List D} (hi : EvI di env xs) (l : xs.length ≤ 100000) (hj : ∀ j ∈ js, j ∈ vs) (no : noOwnB env vs = true)
    (h : ∀ x ∈ xs, ∃ e2, Tg dg x (wipeE env vs) e2 ∧ EvT dt e2 false) : Ev (dOfN (dLcN di dg js dt de vs)) env (.lst []) := by
  have := ev_lc (de := de) (fun _ => []) hi l hj no fun x hx => let ⟨e2, h1, h2⟩ := h x hx; ⟨e2, h1, .inr ⟨rfl, h2⟩⟩
  have e : xs.flatMap (fun _ => ([] : List D)) = [] := by induction xs <;> simp_all
  rw [e] at this; exact this
theorem ev_mapG {α : Type} {env : Lf.Env} {di : DI} {dg : DG} {js vs : List Nat} {de : DE} {l : List α} (g f : α → D) (hi : EvI di env (l.map g)) (ln : l.length ≤ 100000) (hj : ∀ j ∈ js, j ∈ vs) (no : noOwnB env vs = true)
    (h : ∀ a ∈ l, ∃ e2, Tg dg (g a) (wipeE env vs) e2 ∧ Ev de e2 (f a)) : Ev (dOfN (dLcN di dg js dYes de vs)) env (.lst (l.map f)) := by
  have := ev_lc (de := de) (dt := dYes) (env := env) (js := js) (vs := vs) (di := di) (dg := dg) (xs := l.map g)
  exact fun C k => es_lc (fun i d => ∃ a, l[i]? = some a ∧ d = f a) hi (by rw [List.length_map]; exact ln) hj no (fun i x hx => by
    rw [List.getElem?_map] at hx
    obtain ⟨a, ha, rfl⟩ := Option.map_eq_some_iff.mp hx
    obtain ⟨e2, h1, h2⟩ := h a (List.mem_of_getElem? ha)
    exact ⟨e2, h1, fun C k => h2 _ fun d e => k _ ⟨a, ha, e⟩⟩) _ fun d ⟨ys, e, el, hy⟩ => k _ (by
      subst e
      congr 1
      refine List.ext_getElem? fun i => ?_
      by_cases q : i < ys.length
      · obtain ⟨a, ha, e⟩ := hy i _ (List.getElem?_eq_getElem q)
        rw [List.getElem?_eq_getElem q, List.getElem?_map, ha, e]; rfl
      · rw [List.getElem?_eq_none (by omega), List.getElem?_eq_none (by rw [List.length_map] at el ⊢; omega)])
theorem ei_rng {env : Lf.Env} {de : DE} {n : Nat} (h : Ev de env (.int (n : Nat))) (l : n ≤ 1000000) : EvI (diR1 (dCons de dNil)) env ((List.range n).map fun k => D.int (k : Nat)) := by
  have := ei_r1 (env := env) (n := (n : Nat)) (ea_cons h ea_nil) (by omega) (by omega)
  have e : ((n : Nat) : Int).toNat = n := by omega
  have e2 : rngD 0 n = (List.range n).map fun k => D.int (k : Nat) := by
    unfold rngD
    simp
  rw [e, e2] at this
  exact this
/-- all errors that a turn looks at -/
def founds (K : PySem.W.Frag) (x : D) : List D := pl K 71 ++ ern.told.map (toD K x)
theorem pl_len {K : PySem.W.Frag} : (pl K 71).length = 71 := by
  unfold pl
  rw [List.length_map]
  rfl
theorem founds_len {K : PySem.W.Frag} {x : D} : (founds K x).length = 78 := by
  unfold founds
  rw [List.length_append, pl_len, List.length_map]
  rfl
theorem below_len : ern.below.length = 78 := by rfl
theorem founds_at {K : PySem.W.Frag} {x y : D} {i : Nat} (h : (founds K x)[i]? = some y) : i < 78 ∧ ∃ (φ : OpD) (n : Str), y = .op φ ∧ ern.all[i]? = some n ∧ n ∈ ern.all ∧ IsOf φ (He.ga K n) := by
  have hi : i < 78 := by
    have := (List.getElem?_eq_some_iff.mp h).1
    rw [founds_len] at this; exact this
  have up : ∀ {n : Str}, ern.below[i]? = some n → ern.all[i]? = some n := fun {n} hn => by
    unfold ErN.all
    rw [List.getElem?_append_left (by rw [below_len]; exact hi)]; exact hn
  refine ⟨hi, ?_⟩
  unfold founds at h
  have tp : ern.plain.length = 71 := by rfl
  by_cases q : i < 71
  · rw [List.getElem?_append_left (by rw [pl_len]; exact q)] at h
    unfold pl at h
    rw [List.getElem?_map, List.take_of_length_le (by rw [tp]; exact Nat.le_refl _)] at h
    obtain ⟨n, hn, rfl⟩ := Option.map_eq_some_iff.mp h
    have hb : ern.below[i]? = some n := by
      unfold ErN.below
      rw [List.getElem?_append_left (by rw [tp]; exact q)]; exact hn
    exact ⟨_, n, rfl, up hb, List.mem_of_getElem? (up hb), isOf_exc⟩
  · rw [List.getElem?_append_right (by rw [pl_len]; omega), pl_len, List.getElem?_map] at h
    obtain ⟨p, hp, rfl⟩ := Option.map_eq_some_iff.mp h
    have hb : ern.below[i]? = some p.1 := by
      unfold ErN.below
      rw [List.getElem?_append_right (by rw [tp]; omega), tp, List.getElem?_map, hp]; rfl
    exact ⟨_, p.1, rfl, up hb, List.mem_of_getElem? (up hb), isOf_exa⟩
theorem bls_shp {k n : Nat} : flat 1 (.lst (bls k n)) := flat_lst fun x hx => by
  unfold bls at hx
  obtain ⟨j, _, rfl⟩ := List.mem_map.mp hx
  exact flat_bl
section
variable {P : Program} {w : World} {K : PySem.W.Frag} {mg : Str → Option Value} {ns : List Int} {wd x : D} {E : DEnds}
abbrev envL (K : PySem.W.Frag) (ns : List Int) (wd x : D) (a3 a7 a8 a9 : Option D) : Lf.Env := [some (.o (scrO K ns)), some (.o drw), some (.d (.lst (ern.told.map (toldE K x)))), a3.map .d, none, some (.d wd), some (.d x), a7.map .d, a8.map .d, a9.map .d, none, none]
theorem isR (T : Top P w K mg) {env : Lf.Env} {φ : OpD} {n : Str} {i : Nat} (hn : n ∈ ern.all) (ho : IsOf φ (He.ga K n)) (he : env[i]? = some (some (.d (.op φ)))) : Ev (dIsW K (.ref (He.ga K "RoseError")) (dVar i)) env (.bl true) :=
  ev_isW (ev_var he) ho (T.er.exc n hn) (fun u z => z) (T.er.kitR n hn)
theorem isV (T : Top P w K mg) {env : Lf.Env} {φ : OpD} {n : Str} {i : Nat} (hn : n ∈ ern.all) (ho : IsOf φ (He.ga K n)) (he : env[i]? = some (some (.d (.op φ)))) : Ev (dIsW K (.ty "ValueError") (dVar i)) env (.bl true) :=
  ev_isW (cv := .type "ValueError") (ev_var he) ho (T.er.exc n hn) (fun u z => by
    cases u with
    | type m => exact congrArg Value.type (by simpa [L2.RelV] using z)
    | _ => cases z) (T.er.kitV n hn)
theorem law_inner (T : Top P w K mg) {a3 : Option D} {i : Nat} {y : D} (hy : (founds K x)[i]? = some y) (k : E.nx (envL K ns wd x a3 (some (.lst (founds K x))) (some (.int (i : Nat))) (some y))) :
    (dSeq (dIfS (dTest (dOp dNeD (dCallP 1 (w_law_kinds K) (dCons (dVar 9) dNil)) (dOfN (dLcN (diR1 (dCons (dCB dLen (dCons (dVar 7) dNil)) dNil)) (dgN 11) [11] dYes (dOp dEqD (dVar 11) (dVar 8)) [11])))) (dRet (dC (.bl false))) dNext) (dIfS (dOr (dNot (dTest (dIsW K (.ref (He.ga K "RoseError")) (dVar 9)))) (dNot (dTest (dIsW K (.ty "ValueError") (dVar 9))))) (dRet (dC (.bl false))) dNext)) (envL K ns wd x a3 (some (.lst (founds K x))) (some (.int (i : Nat))) (some y)) E := by
  obtain ⟨hi, φ, n, rfl, hn, hm, ho⟩ := founds_at hy
  refine st_seq (st_if1 (p := false) (et_test (ev_op (x := .lst (bls i 78)) (y := .lst (bls i 78)) (ev_call (ea_cons (ev_var (d := .op φ) (by rfl)) ea_nil) rfl fun C q => ⟨φ, i, n, rfl, hn, ho, q⟩) ?_ fun C q => rv_ne bls_shp.shp bls_shp.shp (by rw [dEq_refl bls_shp]; rfl) q)) (fun e => nomatch e) fun _ => ?_)
  · have h78 : Ev (dCB dLen (dCons (dVar 7) dNil)) (envL K ns wd x a3 (some (.lst (founds K x))) (some (.int (i : Nat))) (some (.op φ))) (.int (78 : Nat)) := ev_cb (ea_cons (ev_var (d := .lst (founds K x)) (by rfl)) ea_nil) fun C q => cv_len (xs := founds K x) rfl (by rw [founds_len]; exact q)
    refine ev_mapG (l := List.range 78) (fun k => D.int (k : Nat)) (fun j => .bl (decide (i = j))) (ei_rng h78 (by decide)) (by rw [List.length_range]; decide) (by simp) (by rfl) fun j hj => ⟨_, tg_n (by rfl), ?_⟩
    exact ev_op (ev_var (d := .int (j : Nat)) (by rfl)) (ev_var (d := .int (i : Nat)) (by rfl)) fun C q => rv_eq flat_int.shp flat_int.shp (by rw [dEq_int]; exact decide_eq_decide.mpr (by omega)) q
  · simp only [dNext]
    exact st_if1 (p := false) (et_or (p := false) (q := false) (et_not (p := true) (et_test (isR T hm ho (by rfl)))) fun _ => et_not (p := true) (et_test (isV T hm ho (by rfl)))) (fun e => nomatch e) fun _ => k
theorem law_turn (T : Top P w K mg) {a7 a8 a9 : Option D} {t : Nat} (ht : t < 2) (k : ∀ a8 a9 : Option D, E.nx (envL K ns wd x (some (.int (t : Nat))) (some (.lst (founds K x))) a8 a9)) :
    (dSeq (dAsg (dOp dbAdd (dCallP 1 (w_law_plain_errors K) (dCons (dVar 5) dNil)) (dOfN (dLcN (diSeq (dVar 2)) (dgN 10) [10] dYes (dOp dIx (dVar 10) (dVar 3)) [10]))) (dgN 7)) (dFor (diEnumS (dCons (dVar 7) dNil)) (dgTup 2 (dgCons (dgN 8) (dgCons (dgN 9) dgNil))) (dSeq (dIfS (dTest (dOp dNeD (dCallP 1 (w_law_kinds K) (dCons (dVar 9) dNil)) (dOfN (dLcN (diR1 (dCons (dCB dLen (dCons (dVar 7) dNil)) dNil)) (dgN 11) [11] dYes (dOp dEqD (dVar 11) (dVar 8)) [11])))) (dRet (dC (.bl false))) dNext) (dIfS (dOr (dNot (dTest (dIsW K (.ref (He.ga K "RoseError")) (dVar 9)))) (dNot (dTest (dIsW K (.ty "ValueError") (dVar 9))))) (dRet (dC (.bl false))) dNext)))) (envL K ns wd x (some (.int (t : Nat))) a7 a8 a9) E := by
  refine st_seq (st_asg1 (d := .lst (founds K x)) (ev_op (x := .lst (pl K 71)) (y := .lst (ern.told.map (toD K x))) (ev_call (ea_cons (ev_var (d := wd) (by rfl)) ea_nil) rfl fun C q => ⟨wd, rfl, q⟩) ?_ fun C q => rv_addL (by rw [pl_len, List.length_map]; exact Nat.le_of_ble_eq_true (by rfl)) q) (by cases a7 <;> rfl) ?_)
  · refine ev_mapG (toldE K x) (toD K x) (ei_seq (ev_var (d := .lst (ern.told.map (toldE K x))) (by rfl)) rfl) (Nat.le_of_ble_eq_true (by rfl)) (by simp) (by rfl) fun p hp => ⟨_, tg_n (by rfl), ?_⟩
    refine ev_op (ev_var (d := toldE K x p) (by rfl)) (ev_var (d := .int (t : Nat)) (by rfl)) fun C q => rv_ixT (d := toD K x p) ?_ q
    have : t = 0 ∨ t = 1 := by omega
    rcases this with rfl | rfl <;> rfl
  · dsimp only
    refine st_for (xs := enumD (founds K x)) (fun i e => ∃ a8 a9 : Option D, e = envL K ns wd x (some (.int (t : Nat))) (some (.lst (founds K x))) a8 a9) (ei_enum (p := false) (ea_cons (ev_var (d := .lst (founds K x)) (by rfl)) ea_nil) rfl) ⟨a8, a9, by rfl⟩ ?_ ?_
    · rintro i z e hz ⟨b8, b9, rfl⟩
      obtain ⟨y, hy, rfl⟩ : ∃ y, (founds K x)[i]? = some y ∧ z = .tup [.int (i : Nat), y] := by
        cases q : (founds K x)[i]? with
        | none =>
          have : (enumD (founds K x))[i]? = none := List.getElem?_eq_none (by rw [enumD_len]; exact List.getElem?_eq_none_iff.mp q)
          rw [this] at hz; cases hz
        | some y =>
          rw [enumD_at q] at hz
          exact ⟨y, rfl, (Option.some.inj hz).symm⟩
      refine ⟨_, tg_two (by cases b8 <;> rfl) (by cases b9 <;> rfl), ?_⟩
      exact law_inner T hy ⟨some _, some _, by rfl⟩
    · rintro e ⟨b8, b9, rfl⟩
      exact k b8 b9
end
def r_law (K : PySem.W.Frag) : DS := (dSeq (dBgn K 1 0) (dSeq (dAsg (dTup (dCons (dCallO 2 w_law_pick 1 (dCons (dLst (dCons (dC (.str "")) (dCons (dC (.str "w")) (dCons (dC (.str "nothing of the kind")) dNil)))) dNil)) (dCons (dCallO 1 (w_law_any K) 1 dNil) dNil))) (dgTup 2 (dgCons (dgN 5) (dgCons (dgN 6) dgNil)))) (dSeq (dAsg (dCallP 1 (w_law_told_errors K) (dCons (dVar 6) dNil)) (dgN 2)) (dSeq (dIfS (dTest (dOp dNeD (dOfN (dLcN (diSeq (dVar 2)) (dgN 10) [10] (dTest (dOp dNeS (dReprP K (dOp dIx (dVar 10) (dC (.int 2))) (dOp dIx (dVar 10) (dC (.int 3)))) (dReprP K (dVar 6) (dVar 6)))) (dC (.int 1)) [10])) (dLst dNil))) (dRet (dC (.bl false))) dNext) (dSeq (dFor (diR1 (dCons (dC (.int 2)) dNil)) (dgN 3) (dSeq (dAsg (dOp dbAdd (dCallP 1 (w_law_plain_errors K) (dCons (dVar 5) dNil)) (dOfN (dLcN (diSeq (dVar 2)) (dgN 10) [10] dYes (dOp dIx (dVar 10) (dVar 3)) [10]))) (dgN 7)) (dFor (diEnumS (dCons (dVar 7) dNil)) (dgTup 2 (dgCons (dgN 8) (dgCons (dgN 9) dgNil))) (dSeq (dIfS (dTest (dOp dNeD (dCallP 1 (w_law_kinds K) (dCons (dVar 9) dNil)) (dOfN (dLcN (diR1 (dCons (dCB dLen (dCons (dVar 7) dNil)) dNil)) (dgN 11) [11] dYes (dOp dEqD (dVar 11) (dVar 8)) [11])))) (dRet (dC (.bl false))) dNext) (dIfS (dOr (dNot (dTest (dIsW K (.ref (He.ga K "RoseError")) (dVar 9)))) (dNot (dTest (dIsW K (.ty "ValueError") (dVar 9))))) (dRet (dC (.bl false))) dNext))))) (dSeq (dAsg (dExc (He.ga K "RoseError") (dC (.str "w"))) (dgN 4)) (dRet (dAndV (dOp dNin (dC (.bl true)) (dCallP 1 (w_law_kinds K) (dCons (dVar 4) dNil))) (dIsW K (.ty "ValueError") (dVar 4))))))))))
theorem body_law {P : Program} {w : World} {K : PySem.W.Frag} {mg : Str → Option Value} (T : Top P w K mg) {ns : List Int} (hl : ns.length ≤ 63) : r_law K [some (.o (scrO K ns)), none, none, none, none, none, none, none, none, none, none, none] { nx := fun _ => False, rt := fun d _ => d = .bl true } := by
  refine st_seq (st_bgn (by rfl) (by omega) (by rfl) ?_)
  dsimp only
  refine st_seq (st_asgS (S := fun d => ∃ wd x, Thing K x ∧ d = .tup [wd, x]) (es_tupT (ea_two (S := fun _ => True) (T := Thing K) (es_callO (w := drw) (by rfl) (ea_cons (ev_lst (ea_cons ev_c (ea_cons ev_c (ea_cons ev_c ea_nil))) (by show 3 ≤ 100000; decide)) ea_nil) rfl fun C q => ⟨rfl, _, _, _, rfl, rfl, by show 0 < 3; decide, by show 3 < 1000000; decide, fun y _ => q _ trivial⟩)
    (es_callO (w := drw) (by rfl) ea_nil rfl fun C q => ⟨rfl, rfl, fun x hx => q _ hx⟩)) fun ds h => by
      obtain ⟨wd, x, _, hx, rfl⟩ := h
      exact ⟨by show 2 ≤ 100000; decide, wd, x, hx, rfl⟩) ?_)
  rintro d ⟨wd, x, hx, rfl⟩
  refine ⟨_, tg_two (by rfl) (by rfl), ?_⟩
  dsimp only
  refine st_seq (st_asg1 (d := .lst (ern.told.map (toldE K x))) (ev_call (ea_cons (ev_var (d := x) (by rfl)) ea_nil) rfl fun C k => ⟨x, rfl, k⟩) (by rfl) ?_)
  dsimp only
  obtain ⟨pd, hs, a1, a2, a3⟩ := hx
  refine st_seq (st_if1 (p := false) (et_test (ev_op (ev_lc0 (ei_seq (ev_var (d := .lst (ern.told.map (toldE K x))) (by rfl)) rfl) (by rw [List.length_map]; exact Nat.le_of_ble_eq_true (by rfl)) (by simp) (by rfl) ?_) (ev_lst ea_nil (by show 0 ≤ 100000; decide)) fun C k => rv_neNil k)) (fun e => nomatch e) fun _ => ?_)
  · intro y hy
    obtain ⟨p, _, rfl⟩ := List.mem_map.mp hy
    refine ⟨_, tg_n (by rfl), et_test (ev_op (z := .bl false) (ev_reprP (x := x) (y := x) (ev_op (ev_var (d := toldE K x p) (by rfl)) ev_c fun C k => rv_ixT (by rfl) k) (ev_op (ev_var (d := toldE K x p) (by rfl)) ev_c fun C k => rv_ixT (by rfl) k) hs hs a1 a2 a3) (ev_reprP (x := x) (y := x) (ev_var (by rfl)) (ev_var (by rfl)) hs hs a1 a2 a3) fun C k => rv_neS (p := false) (by simp) k)⟩
  simp only [dNext]
  refine st_seq (st_for (xs := rngD 0 2) (fun i e => ∃ a3 a7 a8 a9 : Option D, e = envL K ns wd x a3 a7 a8 a9) (ei_r1 (n := 2) (ea_cons ev_c ea_nil) (by decide) (by decide)) ⟨none, none, none, none, by rfl⟩ ?_ ?_)
  · rintro i z e hz ⟨b3, b7, b8, b9, rfl⟩
    obtain ⟨t, ht, rfl⟩ : ∃ t : Nat, t < 2 ∧ z = .int (t : Nat) := by
      unfold rngD at hz
      rw [List.getElem?_map] at hz
      obtain ⟨t, h1, rfl⟩ := Option.map_eq_some_iff.mp hz
      have := List.mem_of_getElem? h1
      exact ⟨t, List.mem_range.mp this, by congr 1; omega⟩
    refine ⟨_, tg_n (by cases b3 <;> rfl), ?_⟩
    exact law_turn T ht fun c8 c9 => ⟨some _, some _, c8, c9, by rfl⟩
  · rintro e ⟨b3, b7, b8, b9, rfl⟩
    dsimp only
    have hm : ("RoseError" : Str) ∈ ern.all := by
      unfold ErN.all
      exact List.mem_append_right _ (List.mem_singleton.mpr rfl)
    have h78 : ern.all[78]? = some ("RoseError" : Str) := by rfl
    refine st_seq (st_asg1 (d := .op (excD (He.ga K "RoseError") none)) (ev_exc ev_c) (by rfl) ?_)
    dsimp only
    refine st_ret1 (d := .bl true) (ev_andV (p := true) (q := true) (ev_op (y := .lst (bls 78 78)) ev_c (ev_call (ea_cons (ev_var (d := .op (excD (He.ga K "RoseError") none)) (by rfl)) ea_nil) rfl fun C q => ⟨_, 78, _, rfl, h78, isOf_exc, q⟩) fun C q => ?_) fun _ => isV T hm isOf_exc (by rfl)) rfl
    refine ⟨bls 78 78, rfl, flat_bl.shp, bls_shp.shp, ?_⟩
    have e : (bls 78 78).any (fun z => dEq z (.bl true)) = false := by
      apply Bool.eq_false_iff.mpr
      intro h
      obtain ⟨z, hz, h2⟩ := List.any_eq_true.mp h
      unfold bls at hz
      obtain ⟨j, hj, rfl⟩ := List.mem_map.mp hz
      have := List.mem_range.mp hj
      rw [decide_eq_false (by omega)] at h2
      exact absurd h2 (by decide +kernel)
    rw [e]
    exact q
section
variable {P : Program} {w : World} {K : PySem.W.Frag} {mg : Str → Option Value} {base : Heap}

end
end K00
set_option Elab.async false
set_option linter.all false
set_option maxRecDepth 100000
set_option maxHeartbeats 4000000
/-! f(Basis(x), ..): a call on a new basis -/
namespace Lf
open PySem PySem.Spec PyProof.Rows L2 RZ
theorem mkB_run {C : Addr} {j : Nat} {σ : L2.St} {Hs Fr H : Hp} {env : Env} {goal : List Int} {Q : VK} (er : EnvR Hs Fr H σ env) (sf : Same Hs Fr) (fh : Same Fr H) (hg : env[j]? = some (some (.d (.tup (goal.map .int))))) (n60 : goal.length ≤ 60)
    (kn : ∀ x fp5 fp Hs' Fr' H', EnvF Hs' Fr' H' σ env fp → Stp Hs Fr Hs' Fr' → Same Hs' Fr' → Same Fr' H' → (bas C (BSt.new goal)).At Hs' H' x fp5 → (∀ a ∈ fp5, Fr' a = none) → (∀ k e, env[k]? = some (some e) → ∀ a ∈ fp k, a ∉ fp5) → Q x H') :
    tMake C (initSp C) [] E0 (tCons (tVar j) tNil) σ H Q := by
  obtain ⟨v, hv, rv⟩ := er.dat hg
  obtain ⟨a, vs, rfl, ha, ra⟩ := rv.tup_inv
  have ev := ints_of ra
  subst ev
  have haH : H a = some (.tup (goal.map V.int)) := (sf.trans fh) _ _ ha
  refine ⟨_, hv, fun x dx hx hdx ne => ?_⟩
  have nax : a ≠ x := fun z => by rw [z, hx] at haH; cases haH
  have nad : a ≠ dx := fun z => by rw [z, hdx] at haH; cases haH
  refine ⟨x, dx, a, goal, rfl, upd_same, by rw [upd_ne nax, upd_ne nad]; exact haH, n60, fun H' l1 l2 l3 rows M => ⟨rfl, ?_⟩⟩
  have base : ∀ b o, H b = some o → upd (upd H dx (.own x)) x (.ins C dx []) b = some o := fun b o h => by
    rw [upd_ne (fun z => by rw [z, hx] at h; cases h), upd_ne (fun z => by rw [z, hdx] at h; cases h)]; exact h
  have fresh : ∀ b, upd (upd H dx (.own x)) x (.ins C dx []) b = none → H b = none ∧ b ≠ x ∧ b ≠ dx := fun b h => by
    have n1 : b ≠ x := fun z => by rw [z, upd_same] at h; cases h
    rw [upd_ne n1] at h
    have n2 : b ≠ dx := fun z => by rw [z, upd_same] at h; cases h
    rw [upd_ne n2] at h
    exact ⟨h, n1, n2⟩
  have hh : Same H H' := fun b o h => M.keep b o (fun z => by rw [z, hx] at h; cases h) (base b o h)
  have hd' : H' dx = some (.own x) := M.keep _ _ ne (by rw [upd_ne ne, upd_same])
  obtain ⟨z1, z1x, z1d⟩ := fresh _ M.f1
  obtain ⟨z2, z2x, z2d⟩ := fresh _ M.f2
  obtain ⟨z3, z3x, z3d⟩ := fresh _ M.f3
  have rfree : ∀ b ∈ rows, H b = none ∧ b ≠ x ∧ b ≠ dx ∧ b ≠ l1 ∧ b ≠ l2 ∧ b ≠ l3 := fun b hb => by
    obtain ⟨k, hk⟩ := List.mem_iff_getElem?.mp hb
    obtain ⟨q1, q2, q3, q4, _⟩ := M.rw_ k b hk
    obtain ⟨q5, q6, q7⟩ := fresh _ q1
    exact ⟨q5, q6, q7, q2, q3, q4⟩
  have fr0 : ∀ b ∈ rows, Fr b = none := fun b hb => none_of fh (rfree b hb).1
  have hs0 : ∀ b ∈ rows, Hs b = none := fun b hb => none_of sf (fr0 b hb)
  have g : Gr Hs Fr H (both Hs H' rows) (both Fr H' rows) H' :=
    ⟨⟨both_same, both_same, fun b h1 h2 => by
      have : b ∉ rows := fun z => h1 (fr0 b z)
      rw [both_out this]; exact h2⟩, hh, both_both sf fr0, both_heap (fh.trans hh), fun b h1 h2 => by
      have : b ∉ rows := fun z => h1 (rfree b z).1
      rw [both_out this]; exact h2⟩
  have out : ∀ b, H b = none → b ∉ rows → both Fr H' rows b = none := fun b h1 h2 => by rw [both_out h2]; exact none_of fh h1
  have atB : (bas C (BSt.new goal)).At (both Hs H' rows) H' (.ref x) [x, dx, l1, l2, l3] := by
    refine ⟨x, dx, l1, l2, l3, _, rows.map V.ref, { ev := rfl, ef := rfl, n12 := M.n12, n13 := M.n13, n23 := M.n23, hp := M.ob, hd := hd', few := by show 4 < 1000; decide, g0 := rfl, g1 := rfl, g2 := rfl, g3 := rfl, gn := new_gn, h1 := M.h1, h2 := M.h2, h3 := M.h3, hr := ?_ }⟩
    have li : (BSt.new goal).inverse.length = goal.length := by
      show ((List.range goal.length).map _).length = _
      rw [List.length_map, List.length_range]
    refine ⟨by rw [List.length_map, List.length_map, li, M.len], fun k v d h1 h2 => ?_⟩
    rw [List.getElem?_map] at h1 h2
    cases q : rows[k]? with
    | none => rw [q] at h1; cases h1
    | some b =>
      rw [q] at h1; cases h1
      cases q2 : (BSt.new goal).inverse[k]? with
      | none => rw [q2] at h2; cases h2
      | some rr =>
        rw [q2] at h2; cases h2
        have hk : k < goal.length := by have := (List.getElem?_eq_some_iff.mp q2).1; omega
        have hb := List.mem_of_getElem? q
        obtain ⟨_, _, _, _, h5⟩ := M.rw_ k b q
        rw [irow_eq hk q2] at h5
        exact rp_ints (by rw [both_in hb (hs0 b hb)]; exact h5)
  have mem5 : ∀ b ∈ [x, dx, l1, l2, l3], H b = none ∧ b ∉ rows := fun b hb => by
    have : b = x ∨ b = dx ∨ b = l1 ∨ b = l2 ∨ b = l3 := by simpa using hb
    rcases this with rfl | rfl | rfl | rfl | rfl
    · exact ⟨hx, fun z => (rfree _ z).2.1 rfl⟩
    · exact ⟨hdx, fun z => (rfree _ z).2.2.1 rfl⟩
    · exact ⟨z1, fun z => (rfree _ z).2.2.2.1 rfl⟩
    · exact ⟨z2, fun z => (rfree _ z).2.2.2.2.1 rfl⟩
    · exact ⟨z3, fun z => (rfree _ z).2.2.2.2.2 rfl⟩
  obtain ⟨fp, r⟩ := er
  refine kn (.ref x) _ fp _ _ H' (r.gr g) g.st g.sf g.fh atB (fun b hb => out b (mem5 b hb).1 (mem5 b hb).2) (fun k e he b hb hm => ?_)
  obtain ⟨u, h1, h2⟩ := r.at_ k e he
  exact En.known h2 b hb (mem5 b hm).1
/-- f(Basis(x), ..), x the slot j -/
def tMkCall (C : Addr) (sp : Sp) (j : Nat) (E : XK) (t : TA) : TE := tCall sp [] E (tCons (tMake C (initSp C) [] E0 (tCons (tVar j) tNil)) t)
theorem pe_mkCall {X : Cx} {e : Expr} {C : Addr} {sp : Sp} {j : Nat} {E : XK} {t : TA} (h : PE X e (tCall sp [] E (tCons (tMake C (initSp C) [] E0 (tCons (tVar j) tNil)) t))) : PE X e (tMkCall C sp j E t) := h
def dMkCall (C : Addr) (n : Nat) (ow : OW) (j : Nat) (da : DA) : DE := fun env K => ∃ goal : List Int, env[j]? = some (some (.d (.tup (goal.map .int)))) ∧ goal.length ≤ 60 ∧ da env fun ds env1 => ds.length + 1 = n ∧ ow (bas C (BSt.new goal)) ds fun d _ => K d env1
instance {C : Addr} {n : Nat} {ow : OW} {j : Nat} {E : XK} {t : TA} {da : DA} [ha : AbsA t da] : AbsE (tMkCall C (OSp n ow) j E t) (dMkCall C n ow j da) := ⟨fun σ Hs Fr H env Q K er sf fh h k => by
  obtain ⟨goal, hg, n60, h⟩ := h
  suffices key : tMake C (initSp C) [] E0 (tCons (tVar j) tNil) σ H (fun x H1 => t σ H1 fun xs H2 => OSp n ow ((x :: xs) ++ []) H2 Q E) from key
  refine mkB_run er sf fh hg n60 fun x fp5 fp Hs0 Fr0 H0 r0 s0 sf0 fh0 at5 fr5 dis5 => ?_
  have P5 : ∀ a, a ∈ fp5 → Fr0 a = none ∧ H0 a ≠ none := fun a ha => ⟨fr5 a ha, Ow.known _ at5 a ha⟩
  have r0' : EnvF Hs0 (frC Fr0 H0 (· ∈ fp5)) H0 σ env fp := ⟨r0.len, r0.at_, fun i e he a ha => by
    have h1 := r0.fr i e he a ha
    have h2 : ¬ a ∈ fp5 := dis5 i e he a ha
    unfold frC; rw [h1]; simp only [h2, if_false], r0.dis⟩
  refine ha.run σ Hs0 (frC Fr0 H0 (· ∈ fp5)) H0 env _ _ ⟨fp, r0'⟩ (sf0.trans frC_keep) (frC_heap fh0) h fun vs ds env1 Hs1 Fr1 H1 r1 s1 sf1 fh1 ra hc => ?_
  have A1 := after sf0 P5 s1 sf1 fh1
  obtain ⟨hn, ho⟩ := hc
  obtain ⟨fp1, rf1⟩ := r1
  have rf2 : EnvF Hs1 (frD Fr1 (· ∈ fp5)) H1 σ env1 fp1 := ⟨rf1.len, rf1.at_, fun i e he a ha => by
    have h1 := rf1.fr i e he a ha
    unfold frD; split
    · rfl
    · exact h1, rf1.dis⟩
  have hP6 := rf2.ownedP (fun _ => False)
  have at5' : (bas C (BSt.new goal)).At Hs1 H1 x fp5 := Ow.mono _ at5 A1.st.s fun a ha => A1.at_ a ha
  have fr5' : ∀ a ∈ fp5, frC (frD Fr1 (· ∈ fp5)) H1 (Owned env1 fp1 fun _ => False) a = none := fun a ha => by
    have h1 : frD Fr1 (· ∈ fp5) a = none := by unfold frD; simp only [ha, if_true]
    have h2 : ¬ Owned env1 fp1 (fun _ => False) a := fun ⟨i, e, _, he, hm⟩ => A1.out a ha (rf1.fr i e he a hm)
    unfold frC; rw [h1]; simp only [h2, if_false]
  refine ⟨by rw [List.append_nil, List.length_cons, ra.1]; exact hn, Hs1, frC (frD Fr1 (· ∈ fp5)) H1 (Owned env1 fp1 fun _ => False), _, x, vs, ds, fp5, _, by simp, A1.sf.trans frC_keep, frC_heap A1.fh, at5', fr5', ra, ho, fun v d w' fp' Hs' Fr' H' hat' hfr' s' sf' fh' rv c => ?_⟩
  have A2 := after A1.sf hP6 s' sf' fh'
  refine k v d env1 Hs' _ H' ⟨fp1, rf2.len, fun i e he => ?_, fun i e he a ha => ?_, rf2.dis⟩ ((s0.trans A1.st).trans A2.st) A2.sf A2.fh rv c
  · obtain ⟨u, h1, h2⟩ := rf2.at_ i e he
    exact ⟨u, h1, En.mono h2 s'.s fun a ha => A2.at_ a ⟨i, e, id, he, ha⟩⟩
  · have z : Owned env1 fp1 (fun _ => False) a := ⟨i, e, id, he, ha⟩
    show frD Fr' _ a = none
    unfold frD
    simp only [z, if_true]⟩
theorem ev_mkCall {C : Addr} {n j : Nat} {ow : OW} {da : DA} {env : Env} {goal : List Int} {ds : List D} {d : D} (h : env[j]? = some (some (.d (.tup (goal.map .int))))) (l : goal.length ≤ 60) (ha : EvA da env ds) (hn : ds.length + 1 = n) (k : ∀ K : D → Ow → Prop, (∀ w, K d w) → ow (bas C (BSt.new goal)) ds K) : Ev (dMkCall C n ow j da) env d := fun K q =>
  ⟨goal, h, l, ha _ fun _ e => by
    subst e
    exact ⟨hn, k _ fun w => q _ rfl⟩⟩
end Lf
set_option Elab.async false
set_option linter.all false
set_option maxRecDepth 100000
set_option maxHeartbeats 4000000
set_option synthInstance.maxHeartbeats 4000000
set_option synthInstance.maxSize 100000
namespace K00
open PySem PySem.Spec PyProof.Rows L2 RZ Lf
theorem sc_law_begun : FnScope ["script", "large", "cell"] ["script"] (defScope (top 81)) := ⟨rfl, rfl, rfl, by decide +kernel, rfl, by decide +kernel, by decide +kernel⟩
theorem ok_law_begun {P : Program} {w : World} {K : PySem.W.Frag} {mg : Str → Option Value} {base : Heap} (T : Top P w K mg) : Fn P w K mg base 1 "_law_begun" ["script"] (begunSp K) := by
  obtain ⟨fd, F⟩ := T.fn 0 (x := "_law_begun") (st := (top 81)) rfl
  have sc := sc_law_begun
  have tm : ∀ x, x ∈ frees → mg x = none := fun x hx => T.free x (mem_free hx)
  refine ⟨⟨fd, F.ok sc (fun vs H Q E h => by obtain ⟨a, ns, rfl, _⟩ := h; rfl) (fun cdv A outer s H vs Q E hr h => ?d), F.bindsN fun _ _ _ _ _ _ us hl => match us, hl with | [_], _ => rfl⟩, T.glo "_law_begun" (mem_glo (by decide +kernel)), F.kp⟩
  exact ⟨tBegun K, PSs.nox (pss_cons (ps_own (ps_setLc (i := 1) (own := [("cell", 2)]) (g := (gName 2)) rfl sc.nd rfl rfl (sw_true rfl rfl rfl (by decide +kernel)) (pi_scr (pi_seq (pv 0))) (blkOk_by (N := ["script", "large", "cell"]) (sc := defScope (top 81)) (by decide +kernel)) (fun _ _ _ _ _ => (pg_name (i := 2) sc.nd rfl (by first | exact Or.inl rfl | exact Or.inr rfl)))
      (fun _ _ _ _ _ => (pts_one (pt_cmpR op_ge (pe_callB cl_abs (by rfl) (tm "abs" (by decide +kernel)) (by decide +kernel) (pa_cons (pv 2) pa_nil)) (pe_op op_pow pe_int pe_int) (nomark _)))) (fun _ _ _ _ _ => (pe_op op_sub (pe_callB cl_abs (by rfl) (tm "abs" (by decide +kernel)) (by decide +kernel) (pa_cons (pv 2) pa_nil)) (pe_op op_pow pe_int pe_int)))))
    (pss_one (ps_ret (pe_disp (pps_cons pe_str (pv 1) (pps_cons pe_str (pe_lc (own := [("cell", 2)]) (g := (gName 2)) rfl sc.nd (pi_scr (pi_seq (pv 0))) (blkOk_by (N := ["script", "large", "cell"]) (sc := defScope (top 81)) (by decide +kernel)) (fun _ _ _ _ _ => (pg_name (i := 2) sc.nd rfl (by first | exact Or.inl rfl | exact Or.inr rfl))) (fun _ _ _ _ _ => pts_nil) (fun _ _ _ _ _ => (pe_callB cl_abs (by rfl) (tm "abs" (by decide +kernel)) (by decide +kernel) (pa_cons (pv 2) pa_nil))))
      (pps_cons pe_str pe_int (pps_cons pe_str pe_int pps_nil)))) rfl rfl (by exact fun z => by cases z) (by decide))))), begun_pure h⟩
theorem s_body {K : PySem.W.Frag} {N : List Str} {m : Nat} {a : Addr} {ns : List Int} {G : Hp} {t : TS} {ds : DS} (ha : AbsS t ds) (hS : SqL K G a (ns.map V.int)) (hN : N.length = m + 1)
    (body : ds (some (.o (scrO K ns)) :: List.replicate m none) { nx := fun _ => False, rt := fun d _ => d = .bl true }) : t { nx := fun _ G' => (fun (v : V) (_ : Hp) => v = .bl true) .non G', rt := fun v _ => v = .bl true } (L2.start N [.ref a]) G := by
  have es : L2.start N [.ref a] = some (.ref a) :: List.replicate m none := by
    rw [start_eq, hN]; rfl
  have er : EnvF G G G (L2.start N [.ref a]) (some (.o (scrO K ns)) :: List.replicate m none) (fun _ => []) := by
    rw [es]
    refine ⟨by simp, fun i e he => ?_, fun i e he x hx => by simp at hx, fun i j e e' _ _ _ x hx => by simp at hx⟩
    cases i with
    | zero => cases he; exact ⟨_, rfl, rfl, a, rfl, hS⟩
    | succ i =>
      rw [List.getElem?_cons_succ, List.getElem?_replicate] at he
      split at he <;> cases he
  refine ha.run _ G G G _ _ _ ⟨_, er⟩ (Same.refl _) (Same.refl _) body (fun _ _ _ _ _ _ _ _ _ _ z => z.elim) (fun v d _ _ _ _ _ _ _ _ _ _ rv z => ?_) (fun _ _ _ _ _ _ _ _ _ _ z => z.elim) (fun _ _ _ _ _ _ _ _ _ _ z => z.elim)
  subst z
  exact rv.bl_inv
theorem sc_law : FnScope ["script", "draw", "told", "turn", "base", "words", "thing", "found", "spot", "error", "item", "k"] ["script"] (defScope (top 89)) := ⟨rfl, rfl, rfl, by decide +kernel, rfl, by decide +kernel, by decide +kernel⟩
theorem law_runs {P : Program} {w : World} {K : PySem.W.Frag} {mg : Str → Option Value} {base : Heap} (T : Top P w K mg) {t : Shared} {G : Hp} {a : Addr} {ns : List Int} (hl : ns.length ≤ 63) (e0 : Env0 P w K mg base callerA [] t G) (hS : SqL K G a (ns.map V.int)) :
    codeAny (model P w) callerA (.call (.ref (He.ga K "law")) ⟨[.ref a], []⟩) (CR CX0 [] P w G t (fun v _ => v = .bl true) fun _ _ _ => False) t := by
  obtain ⟨fd, F⟩ := T.fn 8 (x := "law") (st := (top 89)) rfl
  have sc := sc_law
  have tm : ∀ x, x ∈ frees → mg x = none := fun x hx => T.free x (mem_free hx)
  refine run_at (k := 4) (vs := [.ref a]) (us := [.ref a]) F sc ⟨rfl, by decide, by decide⟩ e0 (FunD.bindsA F (ps := ["script"]) (fun _ _ _ _ _ _ us hl => match us, hl with | [_], _ => rfl) t [.ref a] rfl) (.cons rfl .nil) rfl fun cdv hr => ?_
  have hgd : (callerA.deeper (envOfC "law" (defScope (top 89)) t.heap.objs.size (He.ga K "law") cdv)).guards = some [] := rfl
  exact ⟨_, PSs.nox (pss_cons (ps_bgn (ps_set (i := 1) sc.nd rfl (by first | exact Or.inl rfl | exact Or.inr rfl) (pe_f (ok_law_begun T) (hr.mono (by decide)) rfl (pa_cons (pv 0) pa_nil)))) (pss_cons (ps_asg (pe_tup (pa_cons (pe_fO (ok_law_pick T) (hr.mono (by decide)) (by rfl) 1 (pa_cons (pv 1) (pa_cons (pe_lst (pa_cons pe_str (pa_cons pe_str (pa_cons pe_str pa_nil)))) pa_nil))) (pa_cons (pe_fO (ok_law_any T) hr (by rfl) 1 (pa_cons (pv 1) pa_nil)) pa_nil))) (pg_tup (n := 2) rfl (pgs_cons (pg_name (i := 5) sc.nd rfl (by first | exact Or.inl rfl | exact Or.inr rfl)) (pgs_cons (pg_name (i := 6) sc.nd rfl (by first | exact Or.inl rfl | exact Or.inr rfl)) pgs_nil)))) (pss_cons (ps_set (i := 2) sc.nd rfl (by first | exact Or.inl rfl | exact Or.inr rfl) (pe_f (ok_law_told_errors T) (hr.mono (by decide)) rfl (pa_cons (pv 6) pa_nil))) (pss_cons (ps_if (pt_cmpR (show OpR _ _ (rNeD K) from op_neD hr.units) (pe_lc (own := [("item", 10)]) (g := (gName 10)) rfl sc.nd (pi_seq (pv 2)) (blkOk_by (N := ["script", "draw", "told", "turn", "base", "words", "thing", "found", "spot", "error", "item", "k"]) (sc := defScope (top 89)) (by decide +kernel)) (fun _ _ _ _ _ => (pg_name (i := 10) sc.nd rfl (by first | exact Or.inl rfl | exact Or.inr rfl))) (fun _ _ _ _ _ => (pts_one (pt_cmpR op_ne (pe_reprP (K := K) (pe_callB (show CallR _ _ (rReprP K) from cl_reprP hgd hr.units) (by rfl) (tm "repr" (by decide +kernel)) (by decide +kernel) (pa_cons (pe_lstF (pa_cons (pe_ix (show IxR _ (fun x y H Q => rIxL K x y H Q ∨ rIxT K x y H Q) from ix_any) (pv 10) pe_int (fun _ _ => rfl)) (pa_cons (pe_ix (show IxR _ (fun x y H Q => rIxL K x y H Q ∨ rIxT K x y H Q) from ix_any) (pv 10) pe_int (fun _ _ => rfl)) pa_nil))) pa_nil))) (pe_reprP (K := K) (pe_callB (show CallR _ _ (rReprP K) from cl_reprP hgd hr.units) (by rfl) (tm "repr" (by decide +kernel)) (by decide +kernel) (pa_cons (pe_lstF (pa_cons (pv 6) (pa_cons (pv 6) pa_nil))) pa_nil))) (nomark _)))) (fun _ _ _ _ _ => pe_int)) (pe_lst pa_nil) (nomark _)) (pss_one (ps_ret pe_bl)) pss_nil) (pss_cons (ps_for PassesOwn.never rfl (pi_range1 rfl (tm "range" (by decide +kernel)) (pa_cons pe_int pa_nil)) (pg_name (i := 3) sc.nd rfl (by first | exact Or.inl rfl | exact Or.inr rfl)) (pss_cons (ps_set (i := 7) sc.nd rfl (by first | exact Or.inl rfl | exact Or.inr rfl) (pe_op (show OpR _ _ (rbAdd K) from ob_add) (pe_f (ok_law_plain_errors T) (hr.mono (by decide)) rfl (pa_cons (pv 5) pa_nil)) (pe_lc (own := [("item", 10)]) (g := (gName 10)) rfl sc.nd (pi_seq (pv 2)) (blkOk_by (N := ["script", "draw", "told", "turn", "base", "words", "thing", "found", "spot", "error", "item", "k"]) (sc := defScope (top 89)) (by decide +kernel)) (fun _ _ _ _ _ => (pg_name (i := 10) sc.nd rfl (by first | exact Or.inl rfl | exact Or.inr rfl))) (fun _ _ _ _ _ => pts_nil) (fun _ _ _ _ _ => (pe_ix (show IxR _ (fun x y H Q => rIxL K x y H Q ∨ rIxT K x y H Q) from ix_any) (pv 10) (pv 3) (fun _ _ => rfl)))))) (pss_one (ps_for PassesOwn.never rfl (pi_enumS rfl (tm "enumerate" (by decide +kernel)) (pa_cons (pv 7) pa_nil)) (pg_tup (n := 2) rfl (pgs_cons (pg_name (i := 8) sc.nd rfl (by first | exact Or.inl rfl | exact Or.inr rfl)) (pgs_cons (pg_name (i := 9) sc.nd rfl (by first | exact Or.inl rfl | exact Or.inr rfl)) pgs_nil))) (pss_cons (ps_if (pt_cmpR (show OpR _ _ (rNeD K) from op_neD hr.units) (pe_f (ok_law_kinds T) (hr.mono (by decide)) rfl (pa_cons (pv 9) pa_nil)) (pe_lc (own := [("k", 11)]) (g := (gName 11)) rfl sc.nd (pi_range1 rfl (tm "range" (by decide +kernel)) (pa_cons (pe_callB (show CallR _ _ (rLenQ K) from cl_len) (by rfl) (tm "len" (by decide +kernel)) (by decide +kernel) (pa_cons (pv 7) pa_nil)) pa_nil)) (blkOk_by (N := ["script", "draw", "told", "turn", "base", "words", "thing", "found", "spot", "error", "item", "k"]) (sc := defScope (top 89)) (by decide +kernel)) (fun _ _ _ _ _ => (pg_name (i := 11) sc.nd rfl (by first | exact Or.inl rfl | exact Or.inr rfl))) (fun _ _ _ _ _ => pts_nil) (fun _ _ _ _ _ => (pe_cmpR (show OpR _ _ (rEqD K) from op_eqD hr.units) (pv 11) (pv 8) (nomark _)))) (nomark _)) (pss_one (ps_ret pe_bl)) pss_nil) (pss_one (ps_if (PW.pt (pw_or (pt_not (pt_val (pe_isW (K := K) (pe_callB (show CallR _ _ (rIsV K) from call_isV) (by rfl) (tm "isinstance" (by decide +kernel)) (by decide +kernel) (pa_cons (pv 9) (pa_cons (pe_glob (v := .ref (He.ga K "RoseError")) (by rfl) (T.glo "RoseError" (mem_glo (by decide +kernel))) rfl) pa_nil)))))) (pw_or1 (pt_not (pt_val (pe_isW (K := K) (pe_callB (show CallR _ _ (rIsV K) from call_isV) (by rfl) (tm "isinstance" (by decide +kernel)) (by decide +kernel) (pa_cons (pv 9) (pa_cons (pe_bltn (v := .ty "ValueError") (by rfl) (tm "ValueError" (by decide +kernel)) (by decide +kernel) rfl) pa_nil))))))))) (pss_one (ps_ret pe_bl)) pss_nil))))))) (pss_cons (ps_set (i := 4) sc.nd rfl (by first | exact Or.inl rfl | exact Or.inr rfl) (pe_excG (K := K) rfl (T.exc (mem_exc (x := "RoseError") (by decide +kernel))) (T.glo "RoseError" (mem_glo (by decide +kernel))) (by rfl) pe_str)) (pss_one (ps_ret (pe_and (pe_cmpR (show OpR _ _ (rNotInD K) from op_notInD (room65 hr)) pe_bl (pe_f (ok_law_kinds T) (hr.mono (by decide)) rfl (pa_cons (pv 4) pa_nil)) (by rfl)) (pe_one (pe_isW (K := K) (pe_callB (show CallR _ _ (rIsV K) from call_isV) (by rfl) (tm "isinstance" (by decide +kernel)) (by decide +kernel) (pa_cons (pv 4) (pa_cons (pe_bltn (v := .ty "ValueError") (by rfl) (tm "ValueError" (by decide +kernel)) (by decide +kernel) rfl) pa_nil)))))))))))))), s_body (ds := r_law K) inferInstance hS rfl (body_law T hl)⟩
section
variable {P : Program} {w : World} {K : PySem.W.Frag} {mg : Str → Option Value} {base : Heap}

end
end K00
open PySem PySem.W PySem.Calls PyProof.Rows
set_option Elab.async false
set_option maxRecDepth 100000 in
set_option maxHeartbeats 0 in
theorem PySem.Challenge.cw_pacerose_k00_errors_of_all_parts_holds : PySem.Challenge.rw_pacerose_k00_errors_of_all_parts.Holds := by
  w_on; o_law
  refine Hs.row_left (r := OpenLaw.row PySem.Challenge.rw_pacerose_k00_errors_of_all_parts) (q := view (OpenLaw.row PySem.Challenge.rw_pacerose_k00_errors_of_all_parts).prog [89]) (H := K00.hk) (N := 20000) (loose := K00.loose) (d := HandSHeadRun.topDef (OpenLaw.row PySem.Challenge.rw_pacerose_k00_errors_of_all_parts).prog 89) (kwd := []) K00.left
    (by kernel_rfl) (by kernel_rfl) (by kernel_rfl) (by rfl) (by first | assumption | decide +kernel) (by decide +kernel) ⟨rfl, rfl, rfl, rfl, rfl, by decide +kernel⟩ ?hw ?hc
  case hw => w_witness2
  case hc =>
    refine Lf.walk_at (l := PySem.Challenge.rw_pacerose_k00_errors_of_all_parts) (n := 63) rfl (by decide) (by kernel_rfl) ?F
    intro w mg f h Y G hm0
    obtain ⟨K, KX, c⟩ := Y
    have T : K00.Top (PySem.Challenge.rw_pacerose_k00_errors_of_all_parts).prog w K mg := Lf.Top0.of KX G c
    have hm : mg ("law" : PySem.Str) = some (.ref f) := by
      have e : (HandSHeadRun.topDef (OpenLaw.row PySem.Challenge.rw_pacerose_k00_errors_of_all_parts).prog 89).name = ("law" : PySem.Str) := by kernel_rfl
      rw [← e]
      exact hm0
    have hg := T.glo "law" (Lf.mem_glo (by decide +kernel))
    rw [hm] at hg
    cases hg
    exact ⟨K, KX, fun base t G a ns kb nb hl e0 hS => K00.law_runs T hl e0 hS⟩
