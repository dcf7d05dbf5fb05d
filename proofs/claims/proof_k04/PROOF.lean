import PyProof.Rows.All
import Wide.All
import OpenK.AllK
import Wide.FinOn
import HandS.ForMost
import HandS.Steps
import HandS.Zip
import HandS.IsInst
import HandS.Gcd
import HandS.Flow
import HandS.Style
import HandS.Defaults
import HandS.HeadHook2
import HandS.Wide
import HandS.TupMul
import HandS.TupAny
import HandS.HeadHook4
import HandS.HeadEnd
import HandS.Head2
import KE.GoesEnum
import PyProof.P3Eq
import KE.DatumOrd
import HandS.SortKw
import HandS.Star
import PyProof.ReprBulk
import PyProof.FitsInt
import HandS.Deep
import HandS.Codes
import HandS.Head3
import PySem.Challenge.RW_pacerose_k04_whole_least_deals_and_their
set_option Elab.async false
set_option linter.all false
set_option maxRecDepth 100000
set_option maxHeartbeats 4000000
namespace Lf
open PySem PySem.Spec PyProof.Rows L2

/-! ### data -/
inductive D where
  | non | bl (b : Bool) | int (i : Int) | str (x : Str) | lst (xs : List D) | tup (xs : List D)
abbrev Hq := Hp
/-- the value v stands for the data d in the heap H -/
inductive Rp (H : Hp) : V → D → Prop
  | non : Rp H .non .non
  | bl (b : Bool) : Rp H (.bl b) (.bl b)
  | int (i : Int) : Rp H (.int i) (.int i)
  | str (x : Str) : Rp H (.str x) (.str x)
  | lst {a : Addr} {vs : List V} {ds : List D} : H a = some (.lst vs) → vs.length = ds.length → (∀ (i : Nat) v d, vs[i]? = some v → ds[i]? = some d → Rp H v d) → Rp H (.ref a) (.lst ds)
  | tup {a : Addr} {vs : List V} {ds : List D} : H a = some (.tup vs) → vs.length = ds.length → (∀ (i : Nat) v d, vs[i]? = some v → ds[i]? = some d → Rp H v d) → Rp H (.ref a) (.tup ds)
def RpA (H : Hp) (vs : List V) (ds : List D) : Prop := vs.length = ds.length ∧ ∀ (i : Nat) v d, vs[i]? = some v → ds[i]? = some d → Rp H v d
theorem Rp.mono {H H' : Hp} (e : Same H H') {v : V} {d : D} (r : Rp H v d) : Rp H' v d := by
  induction r with
  | non => exact .non
  | bl b => exact .bl b
  | int i => exact .int i
  | str x => exact .str x
  | lst h l _ ih => exact .lst (e _ _ h) l ih
  | tup h l _ ih => exact .tup (e _ _ h) l ih
theorem RpA.mono {H H' : Hp} (e : Same H H') {vs : List V} {ds : List D} (r : RpA H vs ds) : RpA H' vs ds := ⟨r.1, fun i v d a b => (r.2 i v d a b).mono e⟩
theorem RpA.nil {H : Hp} : RpA H [] [] := ⟨rfl, fun i v d a _ => by simp at a⟩
theorem RpA.cons {H : Hp} {v : V} {d : D} {vs : List V} {ds : List D} (h : Rp H v d) (r : RpA H vs ds) : RpA H (v :: vs) (d :: ds) := by
  refine ⟨by simp [r.1], fun i w e a b => ?_⟩
  cases i with
  | zero => simp at a b; subst a b; exact h
  | succ i => exact r.2 i w e (by simpa using a) (by simpa using b)
theorem RpA.snoc {H : Hp} {v : V} {d : D} {vs : List V} {ds : List D} (r : RpA H vs ds) (h : Rp H v d) : RpA H (vs ++ [v]) (ds ++ [d]) := by
  refine ⟨by simp [r.1], fun i w e a b => ?_⟩
  by_cases hi : i < vs.length
  · rw [List.getElem?_append_left hi] at a
    rw [List.getElem?_append_left (by rw [← r.1]; exact hi)] at b
    exact r.2 i w e a b
  · have h1 : i = vs.length := by
      have := (List.getElem?_eq_some_iff.mp a).1
      simp at this
      omega
    subst h1
    simp at a
    rw [r.1] at b
    simp at b
    subst a b
    exact h
theorem RpA.at {H : Hp} {vs : List V} {ds : List D} (r : RpA H vs ds) {i : Nat} {v : V} (h : vs[i]? = some v) : ∃ d, ds[i]? = some d ∧ Rp H v d := by
  have hi := (List.getElem?_eq_some_iff.mp h).1
  have h2 : ds[i]? = some (ds[i]'(by rw [← r.1]; exact hi)) := List.getElem?_eq_getElem _
  exact ⟨_, h2, r.2 i v _ h h2⟩
theorem RpA.atD {H : Hp} {vs : List V} {ds : List D} (r : RpA H vs ds) {i : Nat} {d : D} (h : ds[i]? = some d) : ∃ v, vs[i]? = some v ∧ Rp H v d := by
  have hi := (List.getElem?_eq_some_iff.mp h).1
  have h2 : vs[i]? = some (vs[i]'(by rw [r.1]; exact hi)) := List.getElem?_eq_getElem _
  exact ⟨_, h2, r.2 i _ d h2 h⟩
theorem Rp.lstA {H : Hp} {a : Addr} {vs : List V} {ds : List D} (h : H a = some (.lst vs)) (r : RpA H vs ds) : Rp H (.ref a) (.lst ds) := .lst h r.1 r.2
theorem Rp.tupA {H : Hp} {a : Addr} {vs : List V} {ds : List D} (h : H a = some (.tup vs)) (r : RpA H vs ds) : Rp H (.ref a) (.tup ds) := .tup h r.1 r.2
theorem Rp.int_inv {H : Hp} {v : V} {i : Int} (r : Rp H v (.int i)) : v = .int i := by cases r; rfl
theorem Rp.bl_inv {H : Hp} {v : V} {i : Bool} (r : Rp H v (.bl i)) : v = .bl i := by cases r; rfl
theorem Rp.str_inv {H : Hp} {v : V} {i : Str} (r : Rp H v (.str i)) : v = .str i := by cases r; rfl
theorem Rp.non_inv {H : Hp} {v : V} (r : Rp H v .non) : v = .non := by cases r; rfl
theorem Rp.lst_inv {H : Hp} {v : V} {ds : List D} (r : Rp H v (.lst ds)) : ∃ a vs, v = .ref a ∧ H a = some (.lst vs) ∧ RpA H vs ds := by
  cases r with
  | lst h l q => exact ⟨_, _, rfl, h, l, q⟩
theorem Rp.tup_inv {H : Hp} {v : V} {ds : List D} (r : Rp H v (.tup ds)) : ∃ a vs, v = .ref a ∧ H a = some (.tup vs) ∧ RpA H vs ds := by
  cases r with
  | tup h l q => exact ⟨_, _, rfl, h, l, q⟩

/-! ### steps of the heaps: what is data, what is kept -/
structure Stp (Hs Fr Hs' Fr' : Hp) : Prop where
  s : Same Hs Hs'
  f : Same Fr Fr'
  sep : ∀ a, Fr a ≠ none → Hs a = none → Hs' a = none
theorem Stp.refl (Hs Fr : Hp) : Stp Hs Fr Hs Fr := ⟨Same.refl _, Same.refl _, fun _ _ h => h⟩
theorem some_ne {H H' : Hp} (e : Same H H') {a : Addr} (h : H a ≠ none) : H' a ≠ none := by
  cases q : H a with
  | none => exact absurd q h
  | some o => rw [e _ _ q]; exact fun z => by cases z
theorem Stp.trans {Hs Fr H1 F1 H2 F2 : Hp} (a : Stp Hs Fr H1 F1) (b : Stp H1 F1 H2 F2) : Stp Hs Fr H2 F2 :=
  ⟨a.s.trans b.s, a.f.trans b.f, fun x h1 h2 => b.sep x (some_ne a.f h1) (a.sep x h1 h2)⟩
/-- new objects alone -/
structure Gr (Hs Fr H Hs' Fr' H' : Hp) : Prop where
  st : Stp Hs Fr Hs' Fr'
  h : Same H H'
  sf : Same Hs' Fr'
  fh : Same Fr' H'
  out : ∀ a, H a ≠ none → Fr a = none → Fr' a = none
theorem Gr.refl {Hs Fr H : Hp} (sf : Same Hs Fr) (fh : Same Fr H) : Gr Hs Fr H Hs Fr H := ⟨Stp.refl _ _, Same.refl _, sf, fh, fun _ _ h => h⟩
theorem Gr.trans {Hs Fr H H1 F1 G1 H2 F2 G2 : Hp} (a : Gr Hs Fr H H1 F1 G1) (b : Gr H1 F1 G1 H2 F2 G2) : Gr Hs Fr H H2 F2 G2 :=
  ⟨a.st.trans b.st, a.h.trans b.h, b.sf, b.fh, fun x h1 h2 => b.out x (some_ne a.h h1) (a.out x h1 h2)⟩
theorem same_upd {H H' : Hp} {a : Addr} {o : HO} (e : Same H H') (n : H a = none) : Same H (upd H' a o) := fun b u h => by
  rw [upd_ne (ne_of_none h n)]; exact e b u h
theorem same_upd2 {H H' : Hp} {a : Addr} {o : HO} (e : Same H H') : Same (upd H a o) (upd H' a o) := fun b u h => by
  by_cases q : b = a
  · subst q; rw [upd_same] at h ⊢; exact h
  · rw [upd_ne q] at h ⊢; exact e b u h
theorem none_of {H H' : Hp} (e : Same H H') {a : Addr} (n : H' a = none) : H a = none := e.free n
/-- a new object, as data -/
theorem Gr.new {Hs Fr H : Hp} (sf : Same Hs Fr) (fh : Same Fr H) {p : Addr} (n : H p = none) (o : HO) : Gr Hs Fr H (upd Hs p o) (upd Fr p o) (upd H p o) := by
  have nf : Fr p = none := none_of fh n
  have ns : Hs p = none := none_of sf nf
  refine ⟨⟨same_upd (Same.refl _) ns, same_upd (Same.refl _) nf, fun a h1 h2 => ?_⟩, same_upd (Same.refl _) n, same_upd2 sf, same_upd2 fh, fun a h1 h2 => ?_⟩
  · have : a ≠ p := fun z => h1 (z ▸ nf)
    rw [upd_ne this]; exact h2
  · have : a ≠ p := fun z => h1 (z ▸ n)
    rw [upd_ne this]; exact h2

/-! ### environments -/
/-- an object of one's own: At Hs H v fp: v stands for it, its parts stand at fp -/
structure Ow where
  At : Hp → Hp → V → List Addr → Prop
  mono : ∀ {Hs H Hs' H' : Hp} {v : V} {fp : List Addr}, At Hs H v fp → Same Hs Hs' → (∀ a ∈ fp, H' a = H a) → At Hs' H' v fp
  known : ∀ {Hs H : Hp} {v : V} {fp : List Addr}, At Hs H v fp → ∀ a ∈ fp, H a ≠ none
inductive En where
  | d (x : D)
  | l (xs : List D)
  | o (w : Ow)
def En.At : En → Hp → Hp → V → List Addr → Prop
  | .d x, Hs, _, v, fp => Rp Hs v x ∧ fp = []
  | .l xs, Hs, H, v, fp => ∃ q vs, v = .ref q ∧ fp = [q] ∧ H q = some (.lst vs) ∧ RpA Hs vs xs
  | .o w, Hs, H, v, fp => w.At Hs H v fp
theorem En.mono {e : En} {Hs H Hs' H' : Hp} {v : V} {fp : List Addr} (r : e.At Hs H v fp) (s : Same Hs Hs') (k : ∀ a ∈ fp, H' a = H a) : e.At Hs' H' v fp := by
  cases e with
  | d x => exact ⟨r.1.mono s, r.2⟩
  | l xs =>
    obtain ⟨q, vs, e1, e2, e3, e4⟩ := r
    exact ⟨q, vs, e1, e2, by rw [k q (by rw [e2]; simp)]; exact e3, e4.mono s⟩
  | o w => exact w.mono r s k
theorem En.known {e : En} {Hs H : Hp} {v : V} {fp : List Addr} (r : e.At Hs H v fp) : ∀ a ∈ fp, H a ≠ none := by
  cases e with
  | d x => rw [r.2]; intro a h; simp at h
  | l xs =>
    obtain ⟨q, vs, e1, e2, e3, e4⟩ := r
    intro a h
    rw [e2] at h
    simp at h
    subst h
    rw [e3]
    exact fun z => by cases z
  | o w => exact w.known r
abbrev Env := List (Option En)
structure EnvF (Hs Fr H : Hp) (σ : L2.St) (env : Env) (fp : Nat → List Addr) : Prop where
  len : σ.length = env.length
  at_ : ∀ (i : Nat) e, env[i]? = some (some e) → ∃ v, σ[i]? = some (some v) ∧ e.At Hs H v (fp i)
  fr : ∀ (i : Nat) e, env[i]? = some (some e) → ∀ a ∈ fp i, Fr a = none
  dis : ∀ (i j : Nat) e e', i ≠ j → env[i]? = some (some e) → env[j]? = some (some e') → ∀ a ∈ fp i, a ∉ fp j
def EnvR (Hs Fr H : Hp) (σ : L2.St) (env : Env) : Prop := ∃ fp, EnvF Hs Fr H σ env fp
theorem EnvF.gr {Hs Fr H Hs' Fr' H' : Hp} {σ : L2.St} {env : Env} {fp : Nat → List Addr} (r : EnvF Hs Fr H σ env fp) (g : Gr Hs Fr H Hs' Fr' H') : EnvF Hs' Fr' H' σ env fp := by
  refine ⟨r.len, fun i e he => ?_, fun i e he a ha => ?_, r.dis⟩
  · obtain ⟨v, h1, h2⟩ := r.at_ i e he
    refine ⟨v, h1, En.mono h2 g.st.s fun a ha => ?_⟩
    cases q : H a with
    | none => exact absurd q (En.known h2 a ha)
    | some o => exact g.h a o q
  · obtain ⟨v, h1, h2⟩ := r.at_ i e he
    exact g.out a (En.known h2 a ha) (r.fr i e he a ha)
theorem EnvR.gr {Hs Fr H Hs' Fr' H' : Hp} {σ : L2.St} {env : Env} (r : EnvR Hs Fr H σ env) (g : Gr Hs Fr H Hs' Fr' H') : EnvR Hs' Fr' H' σ env := let ⟨fp, r⟩ := r; ⟨fp, r.gr g⟩
theorem EnvR.len {Hs Fr H : Hp} {σ : L2.St} {env : Env} (r : EnvR Hs Fr H σ env) : σ.length = env.length := let ⟨_, r⟩ := r; r.len
theorem EnvR.dat {Hs Fr H : Hp} {σ : L2.St} {env : Env} (r : EnvR Hs Fr H σ env) {i : Nat} {d : D} (h : env[i]? = some (some (.d d))) : ∃ v, σ[i]? = some (some v) ∧ Rp Hs v d := by
  obtain ⟨fp, r⟩ := r
  obtain ⟨v, h1, h2⟩ := r.at_ i _ h
  exact ⟨v, h1, h2.1⟩
/-- a slot gets data -/
theorem EnvF.setD {Hs Fr H : Hp} {σ : L2.St} {env : Env} {fp : Nat → List Addr} (r : EnvF Hs Fr H σ env fp) (i : Nat) {v : V} {d : D} (h : Rp Hs v d) : EnvF Hs Fr H (σ.set i (some v)) (env.set i (some (.d d))) (fun j => if j = i then [] else fp j) := by
  refine ⟨by simp [r.len], fun j e he => ?_, fun j e he a ha => ?_, fun j k e e' hjk h1 h2 a ha => ?_⟩
  · by_cases q : j = i
    · subst q
      have hl : j < env.length := by
        have := (List.getElem?_eq_some_iff.mp he).1
        simpa using this
      rw [List.getElem?_set_self hl] at he
      cases he
      exact ⟨v, List.getElem?_set_self (by rw [r.len]; exact hl), h, by simp⟩
    · rw [List.getElem?_set_ne (Ne.symm q)] at he
      obtain ⟨u, h1, h2⟩ := r.at_ j e he
      exact ⟨u, by rw [List.getElem?_set_ne (Ne.symm q)]; exact h1, by rw [if_neg q]; exact h2⟩
  · by_cases q : j = i
    · rw [if_pos q] at ha; simp at ha
    · rw [if_neg q] at ha
      rw [List.getElem?_set_ne (Ne.symm q)] at he
      exact r.fr j e he a ha
  · by_cases q : j = i
    · rw [if_pos q] at ha; simp at ha
    · rw [if_neg q] at ha
      rw [List.getElem?_set_ne (Ne.symm q)] at h1
      by_cases q2 : k = i
      · rw [if_pos q2]; simp
      · rw [if_neg q2]
        rw [List.getElem?_set_ne (Ne.symm q2)] at h2
        exact r.dis j k e e' hjk h1 h2 a ha
theorem EnvR.setD {Hs Fr H : Hp} {σ : L2.St} {env : Env} (r : EnvR Hs Fr H σ env) (i : Nat) {v : V} {d : D} (h : Rp Hs v d) : EnvR Hs Fr H (σ.set i (some v)) (env.set i (some (.d d))) := let ⟨_, r⟩ := r; ⟨_, r.setD i h⟩
/-- the slots of an environment that say nothing -/
theorem EnvF.weak {Hs Fr H : Hp} {σ σ' : L2.St} {env env' : Env} {fp : Nat → List Addr} (r : EnvF Hs Fr H σ env fp) (hl : σ'.length = env'.length) (h : ∀ (i : Nat) e, env'[i]? = some (some e) → env[i]? = some (some e) ∧ σ'[i]? = σ[i]?) : EnvF Hs Fr H σ' env' fp := by
  refine ⟨hl, fun i e he => ?_, fun i e he => r.fr i e (h i e he).1, fun i j e e' hij h1 h2 => r.dis i j e e' hij (h i e h1).1 (h j e' h2).1⟩
  obtain ⟨v, h1, h2⟩ := r.at_ i e (h i e he).1
  exact ⟨v, by rw [(h i e he).2]; exact h1, h2⟩

/-! ### readings over data -/
abbrev DE := Env → (D → Env → Prop) → Prop
abbrev DT := Env → (Bool → Env → Prop) → Prop
abbrev DA := Env → (List D → Env → Prop) → Prop
class AbsE (te : TE) (de : outParam DE) : Prop where
  run : ∀ (σ : L2.St) (Hs Fr H : Hp) (env : Env) (Q : VK) (C : D → Env → Prop), EnvR Hs Fr H σ env → Same Hs Fr → Same Fr H → de env C →
    (∀ v d env' Hs' Fr' H', EnvR Hs' Fr' H' σ env' → Stp Hs Fr Hs' Fr' → Same Hs' Fr' → Same Fr' H' → Rp Hs' v d → C d env' → Q v H') → te σ H Q
class AbsT (te : TT) (de : outParam DT) : Prop where
  run : ∀ (σ : L2.St) (Hs Fr H : Hp) (env : Env) (Q : Bool → Hp → Prop) (C : Bool → Env → Prop), EnvR Hs Fr H σ env → Same Hs Fr → Same Fr H → de env C →
    (∀ b env' Hs' Fr' H', EnvR Hs' Fr' H' σ env' → Stp Hs Fr Hs' Fr' → Same Hs' Fr' → Same Fr' H' → C b env' → Q b H') → te σ H Q
class AbsA (te : TA) (de : outParam DA) : Prop where
  run : ∀ (σ : L2.St) (Hs Fr H : Hp) (env : Env) (Q : List V → Hp → Prop) (C : List D → Env → Prop), EnvR Hs Fr H σ env → Same Hs Fr → Same Fr H → de env C →
    (∀ vs ds env' Hs' Fr' H', EnvR Hs' Fr' H' σ env' → Stp Hs Fr Hs' Fr' → Same Hs' Fr' → Same Fr' H' → RpA Hs' vs ds → C ds env' → Q vs H') → te σ H Q
/-- a two-place operation on values -/
abbrev DR2 := D → D → (D → Prop) → Prop
class AbsR (r : R2) (dr : outParam DR2) : Prop where
  run : ∀ (Hs Fr H : Hp) (x y : V) (a b : D) (Q : VK) (C : D → Prop), Same Hs Fr → Same Fr H → Rp Hs x a → Rp Hs y b → dr a b C →
    (∀ v d Hs' Fr' H', Gr Hs Fr H Hs' Fr' H' → Rp Hs' v d → C d → Q v H') → r x y H Q
/-- a call on values -/
abbrev DC := List D → (D → Prop) → Prop
class AbsC (r : List V → Hp → VK → Prop) (dr : outParam DC) : Prop where
  run : ∀ (Hs Fr H : Hp) (xs : List V) (as : List D) (Q : VK) (C : D → Prop), Same Hs Fr → Same Fr H → RpA Hs xs as → dr as C →
    (∀ v d Hs' Fr' H', Gr Hs Fr H Hs' Fr' H' → Rp Hs' v d → C d → Q v H') → r xs H Q
/-- a one-place operation -/
class AbsU (r : V → Hp → VK → Prop) (dr : outParam (D → (D → Prop) → Prop)) : Prop where
  run : ∀ (Hs Fr H : Hp) (x : V) (a : D) (Q : VK) (C : D → Prop), Same Hs Fr → Same Fr H → Rp Hs x a → dr a C →
    (∀ v d Hs' Fr' H', Gr Hs Fr H Hs' Fr' H' → Rp Hs' v d → C d → Q v H') → r x H Q

/-! expressions -/
def dVar (i : Nat) : DE := fun env C => ∃ d, env[i]? = some (some (.d d)) ∧ C d env
def dC (d : D) : DE := fun env C => C d env
instance {i : Nat} : AbsE (tVar i) (dVar i) := ⟨fun σ Hs Fr H env Q C r sf fh h k => by
  obtain ⟨d, h1, h2⟩ := h
  obtain ⟨v, e, rp⟩ := r.dat h1
  exact ⟨v, e, k v d env Hs Fr H r (Stp.refl _ _) sf fh rp h2⟩⟩
instance {i : Int} : AbsE (tC (.int i)) (dC (.int i)) := ⟨fun σ Hs Fr H env Q C r sf fh h k => k _ _ env Hs Fr H r (Stp.refl _ _) sf fh (.int i) h⟩
instance {i : Bool} : AbsE (tC (.bl i)) (dC (.bl i)) := ⟨fun σ Hs Fr H env Q C r sf fh h k => k _ _ env Hs Fr H r (Stp.refl _ _) sf fh (.bl i) h⟩
instance {i : Str} : AbsE (tC (.str i)) (dC (.str i)) := ⟨fun σ Hs Fr H env Q C r sf fh h k => k _ _ env Hs Fr H r (Stp.refl _ _) sf fh (.str i) h⟩
instance : AbsE (tC .non) (dC .non) := ⟨fun σ Hs Fr H env Q C r sf fh h k => k _ _ env Hs Fr H r (Stp.refl _ _) sf fh .non h⟩
def dOp (r : DR2) (da db : DE) : DE := fun env C => da env fun x env1 => db env1 fun y env2 => r x y fun z => C z env2
instance {r : R2} {dr : DR2} {ta tb : TE} {da db : DE} [hr : AbsR r dr] [ha : AbsE ta da] [hb : AbsE tb db] : AbsE (tOp r ta tb) (dOp dr da db) := ⟨fun σ Hs Fr H env Q C er sf fh h k => by
  refine ha.run σ Hs Fr H env _ _ er sf fh h fun x a env1 Hs1 Fr1 H1 r1 s1 sf1 fh1 p1 h1 => ?_
  refine hb.run σ Hs1 Fr1 H1 env1 _ _ r1 sf1 fh1 h1 fun y b env2 Hs2 Fr2 H2 r2 s2 sf2 fh2 p2 h2 => ?_
  refine hr.run Hs2 Fr2 H2 x y a b _ _ sf2 fh2 (p1.mono s2.s) p2 h2 fun v d Hs3 Fr3 H3 g p3 h3 => ?_
  exact k v d env2 Hs3 Fr3 H3 (r2.gr g) ((s1.trans s2).trans g.st) g.sf g.fh p3 h3⟩
def dUn (r : D → (D → Prop) → Prop) (da : DE) : DE := fun env C => da env fun x env1 => r x fun z => C z env1
instance {r : V → Hp → VK → Prop} {dr} {ta : TE} {da : DE} [hr : AbsU r dr] [ha : AbsE ta da] : AbsE (tUn r ta) (dUn dr da) := ⟨fun σ Hs Fr H env Q C er sf fh h k => by
  refine ha.run σ Hs Fr H env _ _ er sf fh h fun x a env1 Hs1 Fr1 H1 r1 s1 sf1 fh1 p1 h1 => ?_
  refine hr.run Hs1 Fr1 H1 x a _ _ sf1 fh1 p1 h1 fun v d Hs3 Fr3 H3 g p3 h3 => ?_
  exact k v d env1 Hs3 Fr3 H3 (r1.gr g) (s1.trans g.st) g.sf g.fh p3 h3⟩
def dNil : DA := fun env C => C [] env
def dCons (de : DE) (da : DA) : DA := fun env C => de env fun x env1 => da env1 fun xs env2 => C (x :: xs) env2
instance : AbsA tNil dNil := ⟨fun σ Hs Fr H env Q C r sf fh h k => k [] [] env Hs Fr H r (Stp.refl _ _) sf fh .nil h⟩
instance {te : TE} {ta : TA} {de : DE} {da : DA} [he : AbsE te de] [ha : AbsA ta da] : AbsA (tCons te ta) (dCons de da) := ⟨fun σ Hs Fr H env Q C er sf fh h k => by
  refine he.run σ Hs Fr H env _ _ er sf fh h fun x a env1 Hs1 Fr1 H1 r1 s1 sf1 fh1 p1 h1 => ?_
  refine ha.run σ Hs1 Fr1 H1 env1 _ _ r1 sf1 fh1 h1 fun xs as env2 Hs2 Fr2 H2 r2 s2 sf2 fh2 p2 h2 => ?_
  exact k _ _ env2 Hs2 Fr2 H2 r2 (s1.trans s2) sf2 fh2 (.cons (p1.mono s2.s) p2) h2⟩
def dTup (da : DA) : DE := fun env C => da env fun xs env1 => xs.length ≤ 100000 ∧ C (.tup xs) env1
def dLst (da : DA) : DE := fun env C => da env fun xs env1 => xs.length ≤ 100000 ∧ C (.lst xs) env1
theorem szl {n : Nat} (h : n ≤ 100000) : n ≤ sizeLine := Nat.le_trans h (by decide)
theorem szlt {n : Nat} (h : n < 100000) : n < sizeLine := Nat.lt_of_lt_of_le h (by decide)
instance {ta : TA} {da : DA} [ha : AbsA ta da] : AbsE (tTup ta) (dTup da) := ⟨fun σ Hs Fr H env Q C er sf fh h k => by
  refine ha.run σ Hs Fr H env _ _ er sf fh h fun xs as env1 Hs1 Fr1 H1 r1 s1 sf1 fh1 p1 h1 => ?_
  refine ⟨by rw [p1.1]; exact szl h1.1, fun p hp => ?_⟩
  have g := Gr.new sf1 fh1 hp (.tup xs)
  exact k _ _ env1 _ _ _ (r1.gr g) (s1.trans g.st) g.sf g.fh (.tupA upd_same (p1.mono g.st.s)) h1.2⟩
instance {ta : TA} {da : DA} [ha : AbsA ta da] : AbsE (tLst ta) (dLst da) := ⟨fun σ Hs Fr H env Q C er sf fh h k => by
  refine ha.run σ Hs Fr H env _ _ er sf fh h fun xs as env1 Hs1 Fr1 H1 r1 s1 sf1 fh1 p1 h1 => ?_
  refine ⟨by rw [p1.1]; exact szl h1.1, fun p hp => ?_⟩
  have g := Gr.new sf1 fh1 hp (.lst xs)
  exact k _ _ env1 _ _ _ (r1.gr g) (s1.trans g.st) g.sf g.fh (.lstA upd_same (p1.mono g.st.s)) h1.2⟩
end Lf
set_option Elab.async false
set_option linter.all false
set_option maxRecDepth 100000
set_option maxHeartbeats 4000000
namespace Lf
open PySem PySem.Spec PyProof.Rows L2

/-! tests -/
def dTest (de : DE) : DT := fun env C => de env fun x env1 => ∃ b, x = .bl b ∧ C b env1
instance {te : TE} {de : DE} [h : AbsE te de] : AbsT (tTest te) (dTest de) := ⟨fun σ Hs Fr H env Q C er sf fh hd k => by
  refine h.run σ Hs Fr H env _ _ er sf fh hd fun x a env1 Hs1 Fr1 H1 r1 s1 sf1 fh1 p1 h1 => ?_
  obtain ⟨b, rfl, h1⟩ := h1
  exact ⟨b, p1.bl_inv, k b env1 Hs1 Fr1 H1 r1 s1 sf1 fh1 h1⟩⟩
instance {te : TE} {de : DE} [h : AbsE te de] : AbsT (tB te) (dTest de) := ⟨fun σ Hs Fr H env Q C er sf fh hd k => by
  refine h.run σ Hs Fr H env _ _ er sf fh hd fun x a env1 Hs1 Fr1 H1 r1 s1 sf1 fh1 p1 h1 => ?_
  obtain ⟨b, rfl, h1⟩ := h1
  exact ⟨b, p1.bl_inv, k b env1 Hs1 Fr1 H1 r1 s1 sf1 fh1 h1⟩⟩
def dAnd (a b : DT) : DT := fun env C => a env fun c env1 => if c = true then b env1 C else C false env1
def dOr (a b : DT) : DT := fun env C => a env fun c env1 => if c = true then C true env1 else b env1 C
def dNot (a : DT) : DT := fun env C => a env fun c env1 => C (!c) env1
instance {t u : TT} {dt du : DT} [ht : AbsT t dt] [hu : AbsT u du] : AbsT (tAnd t u) (dAnd dt du) := ⟨fun σ Hs Fr H env Q C er sf fh hd k => by
  refine ht.run σ Hs Fr H env _ _ er sf fh hd fun b env1 Hs1 Fr1 H1 r1 s1 sf1 fh1 h1 => ?_
  cases b with
  | true =>
    refine hu.run σ Hs1 Fr1 H1 env1 _ _ r1 sf1 fh1 h1 fun b env2 Hs2 Fr2 H2 r2 s2 sf2 fh2 h2 => ?_
    exact k b env2 Hs2 Fr2 H2 r2 (s1.trans s2) sf2 fh2 h2
  | false => exact k false env1 Hs1 Fr1 H1 r1 s1 sf1 fh1 h1⟩
instance {t u : TT} {dt du : DT} [ht : AbsT t dt] [hu : AbsT u du] : AbsT (tOr t u) (dOr dt du) := ⟨fun σ Hs Fr H env Q C er sf fh hd k => by
  refine ht.run σ Hs Fr H env _ _ er sf fh hd fun b env1 Hs1 Fr1 H1 r1 s1 sf1 fh1 h1 => ?_
  cases b with
  | false =>
    refine hu.run σ Hs1 Fr1 H1 env1 _ _ r1 sf1 fh1 h1 fun b env2 Hs2 Fr2 H2 r2 s2 sf2 fh2 h2 => ?_
    exact k b env2 Hs2 Fr2 H2 r2 (s1.trans s2) sf2 fh2 h2
  | true => exact k true env1 Hs1 Fr1 H1 r1 s1 sf1 fh1 h1⟩
instance {t : TT} {dt : DT} [ht : AbsT t dt] : AbsT (tNot t) (dNot dt) := ⟨fun σ Hs Fr H env Q C er sf fh hd k => by
  refine ht.run σ Hs Fr H env _ _ er sf fh hd fun b env1 Hs1 Fr1 H1 r1 s1 sf1 fh1 h1 => ?_
  exact k (!b) env1 Hs1 Fr1 H1 r1 s1 sf1 fh1 h1⟩
def dAndV (a b : DE) : DE := fun env C => a env fun x env1 => ∃ c, x = .bl c ∧ if c = true then b env1 C else C (.bl false) env1
def dOrV (a b : DE) : DE := fun env C => a env fun x env1 => ∃ c, x = .bl c ∧ if c = true then C (.bl true) env1 else b env1 C
def dNotV (a : DE) : DE := fun env C => a env fun x env1 => ∃ c, x = .bl c ∧ C (.bl (!c)) env1
instance {t u : TE} {dt du : DE} [ht : AbsE t dt] [hu : AbsE u du] : AbsE (tAndV t u) (dAndV dt du) := ⟨fun σ Hs Fr H env Q C er sf fh hd k => by
  refine ht.run σ Hs Fr H env _ _ er sf fh hd fun x a env1 Hs1 Fr1 H1 r1 s1 sf1 fh1 p1 h1 => ?_
  obtain ⟨b, rfl, h1⟩ := h1
  refine ⟨b, p1.bl_inv, ?_⟩
  cases b with
  | true =>
    refine hu.run σ Hs1 Fr1 H1 env1 _ _ r1 sf1 fh1 h1 fun v d env2 Hs2 Fr2 H2 r2 s2 sf2 fh2 p2 h2 => ?_
    exact k v d env2 Hs2 Fr2 H2 r2 (s1.trans s2) sf2 fh2 p2 h2
  | false => exact k _ _ env1 Hs1 Fr1 H1 r1 s1 sf1 fh1 (.bl false) h1⟩
instance {t u : TE} {dt du : DE} [ht : AbsE t dt] [hu : AbsE u du] : AbsE (tOrV t u) (dOrV dt du) := ⟨fun σ Hs Fr H env Q C er sf fh hd k => by
  refine ht.run σ Hs Fr H env _ _ er sf fh hd fun x a env1 Hs1 Fr1 H1 r1 s1 sf1 fh1 p1 h1 => ?_
  obtain ⟨b, rfl, h1⟩ := h1
  refine ⟨b, p1.bl_inv, ?_⟩
  cases b with
  | false =>
    refine hu.run σ Hs1 Fr1 H1 env1 _ _ r1 sf1 fh1 h1 fun v d env2 Hs2 Fr2 H2 r2 s2 sf2 fh2 p2 h2 => ?_
    exact k v d env2 Hs2 Fr2 H2 r2 (s1.trans s2) sf2 fh2 p2 h2
  | true => exact k _ _ env1 Hs1 Fr1 H1 r1 s1 sf1 fh1 (.bl true) h1⟩
instance {t : TE} {dt : DE} [ht : AbsE t dt] : AbsE (tNotV t) (dNotV dt) := ⟨fun σ Hs Fr H env Q C er sf fh hd k => by
  refine ht.run σ Hs Fr H env _ _ er sf fh hd fun x a env1 Hs1 Fr1 H1 r1 s1 sf1 fh1 p1 h1 => ?_
  obtain ⟨b, rfl, h1⟩ := h1
  exact ⟨b, p1.bl_inv, k _ _ env1 Hs1 Fr1 H1 r1 s1 sf1 fh1 (.bl _) h1⟩⟩
def dIf (t : DT) (a b : DE) : DE := fun env C => t env fun c env1 => if c = true then a env1 C else b env1 C
instance {t : TT} {ta tb : TE} {dt : DT} {da db : DE} [ht : AbsT t dt] [ha : AbsE ta da] [hb : AbsE tb db] : AbsE (tIf t ta tb) (dIf dt da db) := ⟨fun σ Hs Fr H env Q C er sf fh hd k => by
  refine ht.run σ Hs Fr H env _ _ er sf fh hd fun b env1 Hs1 Fr1 H1 r1 s1 sf1 fh1 h1 => ?_
  cases b with
  | true =>
    refine ha.run σ Hs1 Fr1 H1 env1 _ _ r1 sf1 fh1 h1 fun v d env2 Hs2 Fr2 H2 r2 s2 sf2 fh2 p2 h2 => ?_
    exact k v d env2 Hs2 Fr2 H2 r2 (s1.trans s2) sf2 fh2 p2 h2
  | false =>
    refine hb.run σ Hs1 Fr1 H1 env1 _ _ r1 sf1 fh1 h1 fun v d env2 Hs2 Fr2 H2 r2 s2 sf2 fh2 p2 h2 => ?_
    exact k v d env2 Hs2 Fr2 H2 r2 (s1.trans s2) sf2 fh2 p2 h2⟩
def dChain (r r' : DR2) (a b c : DE) : DE := fun env C => a env fun x env1 => b env1 fun y env2 => r x y fun z => ∃ k, z = .bl k ∧ if k = true then c env2 fun w env3 => r' y w fun u => C u env3 else C (.bl false) env2

/-! operators on data -/
def rII (f : Int → Int → Int) : DR2 := fun x y C => ∃ i j, x = .int i ∧ y = .int j ∧ C (.int (f i j))
def rIIc (P : Int → Int → Prop) (f : Int → Int → Int) : DR2 := fun x y C => ∃ i j, x = .int i ∧ y = .int j ∧ P i j ∧ C (.int (f i j))
def rIB (f : Int → Int → Bool) : DR2 := fun x y C => ∃ i j, x = .int i ∧ y = .int j ∧ C (.bl (f i j))
instance {f : Int → Int → Int} : AbsR (rI0 fun i j => .int (f i j)) (rII f) := ⟨fun Hs Fr H x y a b Q C sf fh px py h k => by
  obtain ⟨i, j, rfl, rfl, h⟩ := h
  exact ⟨i, j, px.int_inv, py.int_inv, k _ _ Hs Fr H (Gr.refl sf fh) (.int _) h⟩⟩
instance {P : Int → Int → Prop} {f : Int → Int → Int} : AbsR (rI P fun i j => .int (f i j)) (rIIc P f) := ⟨fun Hs Fr H x y a b Q C sf fh px py h k => by
  obtain ⟨i, j, rfl, rfl, hp, h⟩ := h
  exact ⟨i, j, px.int_inv, py.int_inv, hp, k _ _ Hs Fr H (Gr.refl sf fh) (.int _) h⟩⟩
instance {f : Int → Int → Bool} : AbsR (rI0 fun i j => .bl (f i j)) (rIB f) := ⟨fun Hs Fr H x y a b Q C sf fh px py h k => by
  obtain ⟨i, j, rfl, rfl, h⟩ := h
  exact ⟨i, j, px.int_inv, py.int_inv, k _ _ Hs Fr H (Gr.refl sf fh) (.bl _) h⟩⟩
def dI1 (f : Int → Int) : D → (D → Prop) → Prop := fun x C => ∃ i, x = .int i ∧ C (.int (f i))
instance {f : Int → Int} : AbsU (rU fun i => .int (f i)) (dI1 f) := ⟨fun Hs Fr H x a Q C sf fh px h k => by
  obtain ⟨i, rfl, h⟩ := h
  exact ⟨i, px.int_inv, k _ _ Hs Fr H (Gr.refl sf fh) (.int _) h⟩⟩
/-- is None -/
def D.isN : D → Bool
  | .non => true
  | _ => false
theorem Rp.isN {H : Hp} {v : V} {d : D} (r : Rp H v d) : decide (v = .non) = d.isN := by
  cases r <;> rfl
def dIsN : DR2 := fun x y C => y = .non ∧ C (.bl x.isN)
def dNotN : DR2 := fun x y C => y = .non ∧ C (.bl (!x.isN))
instance : AbsR rIsN dIsN := ⟨fun Hs Fr H x y a b Q C sf fh px py h k => by
  obtain ⟨rfl, h⟩ := h
  exact ⟨py.non_inv, by rw [px.isN]; exact k _ _ Hs Fr H (Gr.refl sf fh) (.bl _) h⟩⟩
instance : AbsR rNotN dNotN := ⟨fun Hs Fr H x y a b Q C sf fh px py h k => by
  obtain ⟨rfl, h⟩ := h
  exact ⟨py.non_inv, by rw [px.isN]; exact k _ _ Hs Fr H (Gr.refl sf fh) (.bl _) h⟩⟩
/-- is True, is False -/
def dIsB : DR2 := fun x y C => ∃ a b, x = .bl a ∧ y = .bl b ∧ C (.bl (decide (a = b)))
def dNotB : DR2 := fun x y C => ∃ a b, x = .bl a ∧ y = .bl b ∧ C (.bl (!decide (a = b)))
instance : AbsR rIsB dIsB := ⟨fun Hs Fr H x y a b Q C sf fh px py h k => by
  obtain ⟨i, j, rfl, rfl, h⟩ := h
  exact ⟨i, j, px.bl_inv, py.bl_inv, k _ _ Hs Fr H (Gr.refl sf fh) (.bl _) h⟩⟩
instance : AbsR rNotB dNotB := ⟨fun Hs Fr H x y a b Q C sf fh px py h k => by
  obtain ⟨i, j, rfl, rfl, h⟩ := h
  exact ⟨i, j, px.bl_inv, py.bl_inv, k _ _ Hs Fr H (Gr.refl sf fh) (.bl _) h⟩⟩
/-! == of data at any depth -/
mutual
def D.toP : D → PyData
  | .non => .none
  | .bl b => .bool b
  | .int i => .int i
  | .str x => .str x
  | .lst xs => .list (D.toPs xs)
  | .tup xs => .tuple (D.toPs xs)
def D.toPs : List D → List PyData
  | [] => []
  | x :: xs => D.toP x :: D.toPs xs
end
theorem D.toPs_eq : ∀ xs : List D, D.toPs xs = xs.map D.toP
  | [] => by rw [D.toPs]; rfl
  | x :: xs => by rw [D.toPs, D.toPs_eq xs]; rfl
theorem dpAll_of {K : PySem.W.Frag} {H : Hp} : ∀ {vs : List V} {ds : List D}, vs.length = ds.length → (∀ (i : Nat) v d, vs[i]? = some v → ds[i]? = some d → Dp K H v d.toP) → DpAll K H vs (D.toPs ds)
  | [], [], _, _ => by rw [D.toPs]; exact .nil
  | [], _ :: _, h, _ => by simp at h
  | _ :: _, [], h, _ => by simp at h
  | v :: vs, d :: ds, h, f => by
    rw [D.toPs]
    exact .cons (f 0 v d rfl rfl) (dpAll_of (by simpa using h) fun i v' d' a b => f (i + 1) v' d' (by simpa using a) (by simpa using b))
theorem Rp.dp {K : PySem.W.Frag} {H : Hp} {v : V} {d : D} (r : Rp H v d) : Dp K H v d.toP := by
  induction r with
  | non => rw [D.toP]; exact .non
  | bl b => rw [D.toP]; exact .bl b
  | int i => rw [D.toP]; exact .int i
  | str x => rw [D.toP]; exact .str x
  | lst h l _ ih => rw [D.toP]; exact .lst (SqL.of h) (dpAll_of l ih)
  | tup h l _ ih => rw [D.toP]; exact .tup (SqT.of h) (dpAll_of l ih)
def dEq (a b : D) : Bool := PyData.eqv a.toP b.toP
def shp (a : D) : Prop := SeqAt.shaped a.toP = true
def dEqD : DR2 := fun x y C => shp x ∧ shp y ∧ C (.bl (dEq x y))
def dNeD : DR2 := fun x y C => shp x ∧ shp y ∧ C (.bl (!dEq x y))
theorem Dp.mono {K : PySem.W.Frag} {H H' : Hp} (e : Same H H') {v : V} {d : D} (r : Rp H v d) : Dp K H' v d.toP := (r.mono e).dp
instance {K : PySem.W.Frag} : AbsR (rEqD K) dEqD := ⟨fun Hs Fr H x y a b Q C sf fh px py h k => by
  obtain ⟨h1, h2, h⟩ := h
  exact ⟨a.toP, b.toP, (px.mono (sf.trans fh)).dp, (py.mono (sf.trans fh)).dp, h1, h2, k _ _ Hs Fr H (Gr.refl sf fh) (.bl _) h⟩⟩
instance {K : PySem.W.Frag} : AbsR (rNeD K) dNeD := ⟨fun Hs Fr H x y a b Q C sf fh px py h k => by
  obtain ⟨h1, h2, h⟩ := h
  exact ⟨a.toP, b.toP, (px.mono (sf.trans fh)).dp, (py.mono (sf.trans fh)).dp, h1, h2, k _ _ Hs Fr H (Gr.refl sf fh) (.bl _) h⟩⟩
/-! items, slices -/
def dIxL : DR2 := fun x y C => ∃ xs i d, x = .lst xs ∧ y = .int i ∧ atI xs i = some d ∧ C d
def dIxT : DR2 := fun x y C => ∃ xs i d, x = .tup xs ∧ y = .int i ∧ atI xs i = some d ∧ C d
theorem RpA.atI {H : Hp} {vs : List V} {ds : List D} (r : RpA H vs ds) {i : Int} {d : D} (h : atI ds i = some d) : ∃ v, atI vs i = some v ∧ Rp H v d := by
  unfold L2.atI at h ⊢
  rw [r.1]
  cases q : ixN ds.length i with
  | none => rw [q] at h; cases h
  | some j =>
    rw [q] at h
    exact r.atD (i := j) h
instance {K : PySem.W.Frag} : AbsR (rIxL K) dIxL := ⟨fun Hs Fr H x y a b Q C sf fh px py h k => by
  obtain ⟨xs, i, d, rfl, rfl, h1, h⟩ := h
  obtain ⟨p, vs, rfl, e, q⟩ := px.lst_inv
  obtain ⟨v, e2, rv⟩ := q.atI h1
  exact ⟨p, vs, i, v, rfl, py.int_inv, SqL.of ((sf.trans fh) _ _ e), e2, k _ _ Hs Fr H (Gr.refl sf fh) rv h⟩⟩
instance {K : PySem.W.Frag} : AbsR (rIxT K) dIxT := ⟨fun Hs Fr H x y a b Q C sf fh px py h k => by
  obtain ⟨xs, i, d, rfl, rfl, h1, h⟩ := h
  obtain ⟨p, vs, rfl, e, q⟩ := px.tup_inv
  obtain ⟨v, e2, rv⟩ := q.atI h1
  exact ⟨p, vs, i, v, rfl, py.int_inv, SqT.of ((sf.trans fh) _ _ e), e2, k _ _ Hs Fr H (Gr.refl sf fh) rv h⟩⟩
/-- xs[i], a list or a tuple -/
def dIx : DR2 := fun x y C => dIxL x y C ∨ dIxT x y C
instance {K : PySem.W.Frag} : AbsR (fun x y H Q => rIxL K x y H Q ∨ rIxT K x y H Q) dIx := ⟨fun Hs Fr H x y a b Q C sf fh px py h k => by
  rcases h with h | h
  · exact .inl (AbsR.run Hs Fr H x y a b Q C sf fh px py h k)
  · exact .inr (AbsR.run Hs Fr H x y a b Q C sf fh px py h k)⟩
/-! calls of built-ins -/
def dCB (r : DC) (da : DA) : DE := fun env C => da env fun xs env1 => r xs fun d => C d env1
instance {r : List V → Hp → VK → Prop} {dr : DC} {ta : TA} {da : DA} [hr : AbsC r dr] [ha : AbsA ta da] : AbsE (tCB r ta) (dCB dr da) := ⟨fun σ Hs Fr H env Q C er sf fh h k => by
  refine ha.run σ Hs Fr H env _ _ er sf fh h fun xs as env1 Hs1 Fr1 H1 r1 s1 sf1 fh1 p1 h1 => ?_
  refine hr.run Hs1 Fr1 H1 xs as _ _ sf1 fh1 p1 h1 fun v d Hs3 Fr3 H3 g p3 h3 => ?_
  exact k v d env1 Hs3 Fr3 H3 (r1.gr g) (s1.trans g.st) g.sf g.fh p3 h3⟩
theorem RpA.one {H : Hp} {vs : List V} {d : D} (r : RpA H vs [d]) : ∃ v, vs = [v] ∧ Rp H v d := by
  obtain ⟨l, f⟩ := r
  match vs, l with
  | [v], _ => exact ⟨v, rfl, f 0 v d rfl rfl⟩
theorem RpA.two {H : Hp} {vs : List V} {d e : D} (r : RpA H vs [d, e]) : ∃ v w, vs = [v, w] ∧ Rp H v d ∧ Rp H w e := by
  obtain ⟨l, f⟩ := r
  match vs, l with
  | [v, w], _ => exact ⟨v, w, rfl, f 0 v d rfl rfl, f 1 w e rfl rfl⟩
/-- len of a list, of a tuple -/
def rLenQ (K : PySem.W.Frag) : List V → Hp → VK → Prop := fun xs H Q => ∃ p ys, xs = [.ref p] ∧ (SqL K H p ys ∨ SqT K H p ys) ∧ Q (.int ys.length) H
theorem cl_len {X : Cx} : CallR X (.builtin "len") (rLenQ X.K) := call_len_seq
def D.items? : D → Option (List D)
  | .lst xs => some xs
  | .tup xs => some xs
  | _ => none
def dLen : DC := fun as C => ∃ a xs, as = [a] ∧ a.items? = some xs ∧ C (.int xs.length)
instance {K : PySem.W.Frag} : AbsC (rLenQ K) dLen := ⟨fun Hs Fr H xs as Q C sf fh px h k => by
  obtain ⟨a, ds, rfl, e, h⟩ := h
  obtain ⟨v, rfl, rv⟩ := px.one
  cases a with
  | lst ys =>
    cases e
    obtain ⟨p, vs, rfl, e, q⟩ := rv.lst_inv
    exact ⟨p, vs, rfl, .inl (SqL.of ((sf.trans fh) _ _ e)), k _ _ Hs Fr H (Gr.refl sf fh) (by rw [q.1]; exact .int _) h⟩
  | tup ys =>
    cases e
    obtain ⟨p, vs, rfl, e, q⟩ := rv.tup_inv
    exact ⟨p, vs, rfl, .inr (SqT.of ((sf.trans fh) _ _ e)), k _ _ Hs Fr H (Gr.refl sf fh) (by rw [q.1]; exact .int _) h⟩
  | _ => cases e⟩
/-- sum of a list of ints -/
theorem RpA.ints {H : Hp} {vs : List V} {ns : List Int} (r : RpA H vs (ns.map D.int)) : vs = ns.map V.int := by
  obtain ⟨l, f⟩ := r
  rw [List.length_map] at l
  apply List.ext_getElem?
  intro i
  by_cases hi : i < vs.length
  · have h1 : vs[i]? = some vs[i] := List.getElem?_eq_getElem hi
    have hn : i < ns.length := by omega
    have h2 : (ns.map D.int)[i]? = some (.int ns[i]) := by simp [hn]
    have := (f i _ _ h1 h2).int_inv
    rw [h1, this]
    simp [hn]
  · have h1 : vs[i]? = none := List.getElem?_eq_none_iff.mpr (by omega)
    rw [h1]
    symm
    simp
    omega
theorem RpA.bls {H : Hp} {vs : List V} {ns : List Bool} (r : RpA H vs (ns.map D.bl)) : vs = ns.map V.bl := by
  obtain ⟨l, f⟩ := r
  rw [List.length_map] at l
  apply List.ext_getElem?
  intro i
  by_cases hi : i < vs.length
  · have h1 : vs[i]? = some vs[i] := List.getElem?_eq_getElem hi
    have hn : i < ns.length := by omega
    have h2 : (ns.map D.bl)[i]? = some (.bl ns[i]) := by simp [hn]
    have := (f i _ _ h1 h2).bl_inv
    rw [h1, this]
    simp [hn]
  · have h1 : vs[i]? = none := List.getElem?_eq_none_iff.mpr (by omega)
    rw [h1]
    symm
    simp
    omega
theorem RpA.ofInts {H : Hp} (ns : List Int) : RpA H (ns.map V.int) (ns.map D.int) := ⟨by simp, fun i v d a b => by
  simp at a b
  obtain ⟨x, h1, rfl⟩ := a
  obtain ⟨y, h2, rfl⟩ := b
  rw [h1] at h2
  cases h2
  exact .int _⟩
def dSum : DC := fun as C => ∃ ns : List Int, as = [.lst (ns.map D.int)] ∧ C (.int ns.sum)
instance {K : PySem.W.Frag} : AbsC (rSum K) dSum := ⟨fun Hs Fr H xs as Q C sf fh px h k => by
  obtain ⟨ns, rfl, h⟩ := h
  obtain ⟨v, rfl, rv⟩ := px.one
  obtain ⟨p, vs, rfl, e, q⟩ := rv.lst_inv
  exact ⟨p, ns, rfl, SqL.of (by rw [← q.ints]; exact (sf.trans fh) _ _ e), k _ _ Hs Fr H (Gr.refl sf fh) (.int _) h⟩⟩
def dAll : DC := fun as C => ∃ bs : List Bool, as = [.lst (bs.map D.bl)] ∧ C (.bl (bs.all id))
def dAny : DC := fun as C => ∃ bs : List Bool, as = [.lst (bs.map D.bl)] ∧ C (.bl (bs.any id))
instance {K : PySem.W.Frag} : AbsC (rAll K) dAll := ⟨fun Hs Fr H xs as Q C sf fh px h k => by
  obtain ⟨ns, rfl, h⟩ := h
  obtain ⟨v, rfl, rv⟩ := px.one
  obtain ⟨p, vs, rfl, e, q⟩ := rv.lst_inv
  exact ⟨p, ns, rfl, SqL.of (by rw [← q.bls]; exact (sf.trans fh) _ _ e), k _ _ Hs Fr H (Gr.refl sf fh) (.bl _) h⟩⟩
instance {K : PySem.W.Frag} : AbsC (rAny K) dAny := ⟨fun Hs Fr H xs as Q C sf fh px h k => by
  obtain ⟨ns, rfl, h⟩ := h
  obtain ⟨v, rfl, rv⟩ := px.one
  obtain ⟨p, vs, rfl, e, q⟩ := rv.lst_inv
  exact ⟨p, ns, rfl, SqL.of (by rw [← q.bls]; exact (sf.trans fh) _ _ e), k _ _ Hs Fr H (Gr.refl sf fh) (.bl _) h⟩⟩
def dMax : DC := fun as C => ∃ ns : List Int, as = [.lst (ns.map D.int)] ∧ 0 < ns.length ∧ ∀ m, m ∈ ns → (∀ y, y ∈ ns → y ≤ m) → C (.int m)
instance {K : PySem.W.Frag} : AbsC (rMax K) dMax := ⟨fun Hs Fr H xs as Q C sf fh px h k => by
  obtain ⟨ns, rfl, hl, h⟩ := h
  obtain ⟨v, rfl, rv⟩ := px.one
  obtain ⟨p, vs, rfl, e, q⟩ := rv.lst_inv
  exact ⟨p, ns, rfl, SqL.of (by rw [← q.ints]; exact (sf.trans fh) _ _ e), hl, fun m h1 h2 => k _ _ Hs Fr H (Gr.refl sf fh) (.int _) (h m h1 h2)⟩⟩
/-- two ints: max, min -/
def rMax2 : List V → Hp → VK → Prop := fun xs H Q => ∃ i j, xs = [.int i, .int j] ∧ Q (.int (if j > i then j else i)) H
def rMin2 : List V → Hp → VK → Prop := fun xs H Q => ∃ i j, xs = [.int i, .int j] ∧ Q (.int (if j < i then j else i)) H
theorem cl_max2 {X : Cx} (hc : X.calm = true) : CallR X (.builtin "max") rMax2 := call_max2 hc
theorem cl_min2 {X : Cx} (hc : X.calm = true) : CallR X (.builtin "min") rMin2 := call_min2 hc
def dMax2 : DC := fun as C => ∃ i j, as = [.int i, .int j] ∧ C (.int (if j > i then j else i))
def dMin2 : DC := fun as C => ∃ i j, as = [.int i, .int j] ∧ C (.int (if j < i then j else i))
instance : AbsC rMax2 dMax2 := ⟨fun Hs Fr H xs as Q C sf fh px h k => by
  obtain ⟨i, j, rfl, h⟩ := h
  obtain ⟨v, w, rfl, rv, rw'⟩ := px.two
  rw [rv.int_inv, rw'.int_inv]
  exact ⟨i, j, rfl, k _ _ Hs Fr H (Gr.refl sf fh) (.int _) h⟩⟩
instance : AbsC rMin2 dMin2 := ⟨fun Hs Fr H xs as Q C sf fh px h k => by
  obtain ⟨i, j, rfl, h⟩ := h
  obtain ⟨v, w, rfl, rv, rw'⟩ := px.two
  rw [rv.int_inv, rw'.int_inv]
  exact ⟨i, j, rfl, k _ _ Hs Fr H (Gr.refl sf fh) (.int _) h⟩⟩
/-- abs -/
def rAbs : List V → Hp → VK → Prop := fun xs H Q => ∃ i, xs = [.int i] ∧ Q (.int (if i < 0 then -i else i)) H
def dAbs : DC := fun as C => ∃ i, as = [.int i] ∧ C (.int (if i < 0 then -i else i))
instance : AbsC rAbs dAbs := ⟨fun Hs Fr H xs as Q C sf fh px h k => by
  obtain ⟨i, rfl, h⟩ := h
  obtain ⟨v, rfl, rv⟩ := px.one
  rw [rv.int_inv]
  exact ⟨i, rfl, k _ _ Hs Fr H (Gr.refl sf fh) (.int _) h⟩⟩
/-- gcd -/
def dGcd : DC := fun as C => ∃ i j, as = [.int i, .int j] ∧ C (.int ((Nat.gcd i.natAbs j.natAbs : Nat) : Int))
instance : AbsC rGcd dGcd := ⟨fun Hs Fr H xs as Q C sf fh px h k => by
  obtain ⟨i, j, rfl, h⟩ := h
  obtain ⟨v, w, rfl, rv, rw'⟩ := px.two
  rw [rv.int_inv, rw'.int_inv]
  exact ⟨i, j, rfl, k _ _ Hs Fr H (Gr.refl sf fh) (.int _) h⟩⟩
/-- int(n) -/
def rInt1 : List V → Hp → VK → Prop := fun xs H Q => (∃ i, xs = [.int i] ∧ Q (.int i) H) ∨ ∃ b, xs = [.bl b] ∧ Q (.int (b2i b)) H
def dInt1 : DC := fun as C => (∃ i, as = [.int i] ∧ C (.int i)) ∨ ∃ b, as = [.bl b] ∧ C (.int (b2i b))
instance : AbsC rInt1 dInt1 := ⟨fun Hs Fr H xs as Q C sf fh px h k => by
  rcases h with ⟨i, rfl, h⟩ | ⟨i, rfl, h⟩
  · obtain ⟨v, rfl, rv⟩ := px.one
    rw [rv.int_inv]
    exact .inl ⟨i, rfl, k _ _ Hs Fr H (Gr.refl sf fh) (.int _) h⟩
  · obtain ⟨v, rfl, rv⟩ := px.one
    rw [rv.bl_inv]
    exact .inr ⟨i, rfl, k _ _ Hs Fr H (Gr.refl sf fh) (.int _) h⟩⟩
/-- list(x), tuple(x) -/
def rListQ (K : PySem.W.Frag) : List V → Hp → VK → Prop := fun xs H Q => ∃ p ys, xs = [.ref p] ∧ (SqL K H p ys ∨ SqT K H p ys) ∧ ∀ l, H l = none → Q (.ref l) (upd H l (.lst ys))
theorem cl_list {X : Cx} : CallR X (.type "list") (rListQ X.K) := call_list_of
def rTupQ (K : PySem.W.Frag) : List V → Hp → VK → Prop := fun xs H Q => ∃ p ys, xs = [.ref p] ∧ ((SqL K H p ys ∧ ∀ l, H l = none → Q (.ref l) (upd H l (.tup ys))) ∨ (SqT K H p ys ∧ Q (.ref p) H))
theorem cl_tuple {X : Cx} : CallR X (.type "tuple") (rTupQ X.K) := call_tuple_of
def dListQ : DC := fun as C => ∃ a xs, as = [a] ∧ a.items? = some xs ∧ C (.lst xs)
def dTupQ : DC := fun as C => ∃ a xs, as = [a] ∧ a.items? = some xs ∧ C (.tup xs)
instance {K : PySem.W.Frag} : AbsC (rListQ K) dListQ := ⟨fun Hs Fr H xs as Q C sf fh px h k => by
  obtain ⟨a, ds, rfl, e, h⟩ := h
  obtain ⟨v, rfl, rv⟩ := px.one
  cases a with
  | lst ys =>
    cases e
    obtain ⟨p, vs, rfl, e, q⟩ := rv.lst_inv
    refine ⟨p, vs, rfl, .inl (SqL.of ((sf.trans fh) _ _ e)), fun l hl => ?_⟩
    have g := Gr.new sf fh hl (.lst vs)
    exact k _ _ _ _ _ g (.lstA upd_same (q.mono g.st.s)) h
  | tup ys =>
    cases e
    obtain ⟨p, vs, rfl, e, q⟩ := rv.tup_inv
    refine ⟨p, vs, rfl, .inr (SqT.of ((sf.trans fh) _ _ e)), fun l hl => ?_⟩
    have g := Gr.new sf fh hl (.lst vs)
    exact k _ _ _ _ _ g (.lstA upd_same (q.mono g.st.s)) h
  | _ => cases e⟩
instance {K : PySem.W.Frag} : AbsC (rTupQ K) dTupQ := ⟨fun Hs Fr H xs as Q C sf fh px h k => by
  obtain ⟨a, ds, rfl, e, h⟩ := h
  obtain ⟨v, rfl, rv⟩ := px.one
  cases a with
  | lst ys =>
    cases e
    obtain ⟨p, vs, rfl, e, q⟩ := rv.lst_inv
    refine ⟨p, vs, rfl, .inl ⟨SqL.of ((sf.trans fh) _ _ e), fun l hl => ?_⟩⟩
    have g := Gr.new sf fh hl (.tup vs)
    exact k _ _ _ _ _ g (.tupA upd_same (q.mono g.st.s)) h
  | tup ys =>
    cases e
    obtain ⟨p, vs, rfl, e, q⟩ := rv.tup_inv
    exact ⟨p, vs, rfl, .inr ⟨SqT.of ((sf.trans fh) _ _ e), k _ _ Hs Fr H (Gr.refl sf fh) (.tupA e q) h⟩⟩
  | _ => cases e⟩
/-- isinstance(x, T), T a built-in class -/
def D.ty : D → String
  | .non => "NoneType"
  | .bl _ => "bool"
  | .int _ => "int"
  | .str _ => "str"
  | .lst _ => "list"
  | .tup _ => "tuple"
theorem Rp.tyx {K : PySem.W.Frag} {H : Hp} {v : V} {d : D} (r : Rp H v d) : TyX K H v (.type d.ty) := by
  cases r with
  | non => exact .base .non
  | bl b => exact .base (.bl b)
  | int b => exact .base (.int b)
  | str b => exact .base (.str b)
  | lst h _ _ => exact .base (.lst h)
  | tup h _ _ => exact .base (.tup h)
def rIsTyQ (K : PySem.W.Frag) (T : String) : V → Hp → VK → Prop := fun x H Q => rIsi K [x, .ty T] H Q
end Lf
set_option Elab.async false
set_option linter.all false
set_option maxRecDepth 100000
set_option maxHeartbeats 4000000
namespace Lf
open PySem PySem.Spec PyProof.Rows L2 RZ

/-! ### what is walked -/
abbrev DI := Env → (List D → Env → Prop) → Prop
structure Feeds (Hs Fr : Hp) (J : It) (xs : List D) : Prop where
  go : ∀ i H, i < xs.length → Same Fr H → J.go i H
  stop : ∀ i H, i = xs.length → Same Fr H → J.stop i H
  yld : ∀ Hs2 Fr2 H i x H', Same Hs Hs2 → Same Fr Fr2 → Same Hs2 Fr2 → Same Fr2 H → i < xs.length → J.yld i H x H' → ∃ d Hs' Fr', xs[i]? = some d ∧ Gr Hs2 Fr2 H Hs' Fr' H' ∧ Rp Hs' x d
class AbsI (wi : TI) (di : outParam DI) : Prop where
  run : ∀ (σ : L2.St) (Hs Fr H : Hp) (env : Env) (R : It → Hp → Prop) (C : List D → Env → Prop), EnvR Hs Fr H σ env → Same Hs Fr → Same Fr H → di env C →
    (∀ J xs env' Hs' Fr' H', EnvR Hs' Fr' H' σ env' → Stp Hs Fr Hs' Fr' → Same Hs' Fr' → Same Fr' H' → Feeds Hs' Fr' J xs → C xs env' → R J H') → wi σ H R
theorem feeds_l {K : PySem.W.Frag} {Hs Fr : Hp} {a : Addr} {vs : List V} {ds : List D} (sf : Same Hs Fr) (h : Hs a = some (.lst vs)) (q : RpA Hs vs ds) : Feeds Hs Fr (Itl K a) ds := by
  have len := q.1
  refine ⟨fun i H hi fh => ?_, fun i H hi fh => ?_, fun Hs2 Fr2 H i x H' s f sf2 fh hi y => ?_⟩
  · exact ⟨vs, vs[i]'(by omega), SqL.of (fh _ _ (sf _ _ h)), List.getElem?_eq_getElem _⟩
  · exact ⟨vs, SqL.of (fh _ _ (sf _ _ h)), by omega⟩
  · obtain ⟨rfl, y⟩ := y
    have := y vs (SqL.of (fh _ _ (f _ _ (sf _ _ h))))
    obtain ⟨d, hd, rd⟩ := q.at this
    exact ⟨d, Hs2, Fr2, hd, Gr.refl sf2 fh, rd.mono s⟩
theorem feeds_t {K : PySem.W.Frag} {Hs Fr : Hp} {a : Addr} {vs : List V} {ds : List D} (sf : Same Hs Fr) (h : Hs a = some (.tup vs)) (q : RpA Hs vs ds) : Feeds Hs Fr (Itt K a) ds := by
  have len := q.1
  refine ⟨fun i H hi fh => ?_, fun i H hi fh => ?_, fun Hs2 Fr2 H i x H' s f sf2 fh hi y => ?_⟩
  · exact ⟨vs, vs[i]'(by omega), SqT.of (fh _ _ (sf _ _ h)), List.getElem?_eq_getElem _⟩
  · exact ⟨vs, SqT.of (fh _ _ (sf _ _ h)), by omega⟩
  · obtain ⟨rfl, y⟩ := y
    have := y vs (SqT.of (fh _ _ (f _ _ (sf _ _ h))))
    obtain ⟨d, hd, rd⟩ := q.at this
    exact ⟨d, Hs2, Fr2, hd, Gr.refl sf2 fh, rd.mono s⟩
/-- a list or a tuple -/
def iSeq (K : PySem.W.Frag) (tl : TE) : TI := fun σ H R => tl σ H fun x H1 => (∃ a, x = .ref a ∧ (∃ xs, SqL K H1 a xs) ∧ R (Itl K a) H1) ∨ (∃ a, x = .ref a ∧ (∃ xs, SqT K H1 a xs) ∧ R (Itt K a) H1)
theorem pi_seq {X : Cx} {tg l : Expr} {tl : TE} (hl : PE X l tl) : PI X tg l (iSeq X.K tl) :=
  ⟨fun pins s σ H R I0 h0 => thn (hl.run pins s σ H _ I0 h0) fun w t ⟨x, H2, J, rx, c⟩ => by
    rcases c with ⟨a, ea, ⟨xs, sq⟩, r⟩ | ⟨a, ea, ⟨xs, sq⟩, r⟩
    all_goals (subst ea; cases rx)
    · obtain ⟨its, rv, p, hz⟩ := J.list sq
      exact wpAny_pyIter_list p.isList ⟨t.heap.objs.size, [t.heap.objs.size], _, _, H2, rfl, J.kept (t' := t.toks) fun b o e => Heap.get?_push_of_some _ e,
        turn_list a _, ⟨_, Heap.get?_push_size _ rfl, rfl, rfl⟩, fun b hb => by
          have eb : b = t.heap.objs.size := by simpa using hb
          exact eb ▸ J.fpOk (Nat.le_refl _) (J.hok.fresh (Nat.le_refl _)), r⟩
    · obtain ⟨its, rv, p, hz⟩ := J.tuple sq
      exact wpAny_pyIter_tuple (show t.heap.IsTuple a its.toArray from p) ⟨t.heap.objs.size, [t.heap.objs.size], _, _, H2, rfl, J.kept (t' := t.toks) fun b o e => Heap.get?_push_of_some _ e,
        turn_tuple a _, ⟨_, Heap.get?_push_size _ rfl, rfl, rfl⟩, fun b hb => by
          have eb : b = t.heap.objs.size := by simpa using hb
          exact eb ▸ J.fpOk (Nat.le_refl _) (J.hok.fresh (Nat.le_refl _)), r⟩⟩
def diSeq (dl : DE) : DI := fun env C => dl env fun x env1 => ∃ xs, x.items? = some xs ∧ C xs env1
instance {K : PySem.W.Frag} {tl : TE} {dl : DE} [h : AbsE tl dl] : AbsI (iSeq K tl) (diSeq dl) := ⟨fun σ Hs Fr H env R C er sf fh hd k => by
  refine h.run σ Hs Fr H env _ _ er sf fh hd fun x a env1 Hs1 Fr1 H1 r1 s1 sf1 fh1 p1 h1 => ?_
  obtain ⟨xs, e, h1⟩ := h1
  cases a with
  | lst ys =>
    cases e
    obtain ⟨p, vs, rfl, e, q⟩ := p1.lst_inv
    exact .inl ⟨p, rfl, ⟨vs, SqL.of ((sf1.trans fh1) _ _ e)⟩, k _ _ env1 Hs1 Fr1 H1 r1 s1 sf1 fh1 (feeds_l sf1 e q) h1⟩
  | tup ys =>
    cases e
    obtain ⟨p, vs, rfl, e, q⟩ := p1.tup_inv
    exact .inr ⟨p, rfl, ⟨vs, SqT.of ((sf1.trans fh1) _ _ e)⟩, k _ _ env1 Hs1 Fr1 H1 r1 s1 sf1 fh1 (feeds_t sf1 e q) h1⟩
  | _ => cases e⟩
def rngD (lo : Int) (n : Nat) : List D := (List.range n).map fun (i : Nat) => .int (lo + (i : Int))
theorem feeds_r {Hs Fr : Hp} (sf : Same Hs Fr) (lo : Int) (n : Nat) : Feeds Hs Fr (Itr lo n) (rngD lo n) := by
  have len : (rngD lo n).length = n := by simp [rngD]
  refine ⟨fun i H hi fh => ?_, fun i H hi fh => ?_, fun Hs2 Fr2 H i x H' s f sf2 fh hi y => ?_⟩
  · show i < n
    omega
  · show n ≤ i
    omega
  · obtain ⟨rfl, rfl⟩ := y
    refine ⟨.int (lo + i), Hs2, Fr2, ?_, Gr.refl sf2 fh, .int _⟩
    have hi' : i < n := by omega
    simp [rngD, hi']
def diR1 (da : DA) : DI := fun env C => da env fun as env1 => ∃ n : Int, as = [.int n] ∧ n < 2 ^ 62 ∧ -(2 ^ 62) ≤ n ∧ C (rngD 0 n.toNat) env1
def diR2 (da : DA) : DI := fun env C => da env fun as env1 => ∃ a n : Int, as = [.int a, .int n] ∧ (-(2 ^ 62) ≤ a ∧ a < 2 ^ 62 ∧ -(2 ^ 62) ≤ n ∧ n < 2 ^ 62) ∧ C (rngD a (n - a).toNat) env1
instance {ta : TA} {da : DA} [h : AbsA ta da] : AbsI (iRng1 ta) (diR1 da) := ⟨fun σ Hs Fr H env R C er sf fh hd k => by
  refine h.run σ Hs Fr H env _ _ er sf fh hd fun vs as env1 Hs1 Fr1 H1 r1 s1 sf1 fh1 p1 h1 => ?_
  obtain ⟨n, rfl, h2, h3, h1⟩ := h1
  obtain ⟨v, rfl, rv⟩ := p1.one
  rw [rv.int_inv]
  exact ⟨n, rfl, h3, h2, k _ _ env1 Hs1 Fr1 H1 r1 s1 sf1 fh1 (feeds_r sf1 0 n.toNat) h1⟩⟩
instance {ta : TA} {da : DA} [h : AbsA ta da] : AbsI (iRng2 ta) (diR2 da) := ⟨fun σ Hs Fr H env R C er sf fh hd k => by
  refine h.run σ Hs Fr H env _ _ er sf fh hd fun vs as env1 Hs1 Fr1 H1 r1 s1 sf1 fh1 p1 h1 => ?_
  obtain ⟨a, n, rfl, h2, h1⟩ := h1
  obtain ⟨v, w, rfl, rv, rw'⟩ := p1.two
  rw [rv.int_inv, rw'.int_inv]
  exact ⟨a, n, rfl, h2, k _ _ env1 Hs1 Fr1 H1 r1 s1 sf1 fh1 (feeds_r sf1 a _) h1⟩⟩
/-- zip of two lists, two tuples -/
def zipD (xs ys : List D) : List D := List.zipWith (fun x y => .tup [x, y]) xs ys
theorem zipD_at {xs ys : List D} {i : Nat} {x y : D} (h1 : xs[i]? = some x) (h2 : ys[i]? = some y) : (zipD xs ys)[i]? = some (.tup [x, y]) := by
  unfold zipD
  rw [List.getElem?_zipWith, h1, h2]
theorem pair_gr {Hs2 Fr2 H : Hp} (sf2 : Same Hs2 Fr2) (fh : Same Fr2 H) {T : Addr} (hT : H T = none) {x y : V} {dx dy : D} (rx : Rp Hs2 x dx) (ry : Rp Hs2 y dy) :
    Gr Hs2 Fr2 H (upd Hs2 T (.tup [x, y])) (upd Fr2 T (.tup [x, y])) (upd H T (.tup [x, y])) ∧ Rp (upd Hs2 T (.tup [x, y])) (.ref T) (.tup [dx, dy]) := by
  have g := Gr.new sf2 fh hT (.tup [x, y])
  exact ⟨g, .tupA upd_same (.cons (rx.mono g.st.s) (.cons (ry.mono g.st.s) .nil))⟩
theorem feeds_zl {K : PySem.W.Frag} {Hs Fr : Hp} {a b : Addr} {vs ws : List V} {ds es : List D} (sf : Same Hs Fr) (h : Hs a = some (.lst vs)) (q : RpA Hs vs ds) (h2 : Hs b = some (.lst ws)) (q2 : RpA Hs ws es) : Feeds Hs Fr (Itz K a b) (zipD ds es) := by
  have l1 := q.1
  have l2 := q2.1
  have len : (zipD ds es).length = min ds.length es.length := by simp [zipD]
  refine ⟨fun i H hi fh => ?_, fun i H hi fh => ?_, fun Hs2 Fr2 H i x H' s f sf2 fh hi y => ?_⟩
  · exact ⟨vs, ws, vs[i]'(by omega), ws[i]'(by omega), SqL.of (fh _ _ (sf _ _ h)), SqL.of (fh _ _ (sf _ _ h2)), List.getElem?_eq_getElem _, List.getElem?_eq_getElem _⟩
  · exact ⟨vs, ws, SqL.of (fh _ _ (sf _ _ h)), SqL.of (fh _ _ (sf _ _ h2)), by omega⟩
  · obtain ⟨T, x1, y1, rfl, hT, rfl, f1, f2⟩ := y
    obtain ⟨d, hd, rd⟩ := q.at (f1 vs (SqL.of (fh _ _ (f _ _ (sf _ _ h)))))
    obtain ⟨e, he, re⟩ := q2.at (f2 ws (SqL.of (fh _ _ (f _ _ (sf _ _ h2)))))
    obtain ⟨g, r⟩ := pair_gr sf2 fh hT (rd.mono s) (re.mono s)
    exact ⟨.tup [d, e], _, _, zipD_at hd he, g, r⟩
theorem feeds_zt {K : PySem.W.Frag} {Hs Fr : Hp} {a b : Addr} {vs ws : List V} {ds es : List D} (sf : Same Hs Fr) (h : Hs a = some (.tup vs)) (q : RpA Hs vs ds) (h2 : Hs b = some (.tup ws)) (q2 : RpA Hs ws es) : Feeds Hs Fr (ItzT K a b) (zipD ds es) := by
  have l1 := q.1
  have l2 := q2.1
  have len : (zipD ds es).length = min ds.length es.length := by simp [zipD]
  refine ⟨fun i H hi fh => ?_, fun i H hi fh => ?_, fun Hs2 Fr2 H i x H' s f sf2 fh hi y => ?_⟩
  · exact ⟨vs, ws, vs[i]'(by omega), ws[i]'(by omega), SqT.of (fh _ _ (sf _ _ h)), SqT.of (fh _ _ (sf _ _ h2)), List.getElem?_eq_getElem _, List.getElem?_eq_getElem _⟩
  · exact ⟨vs, ws, SqT.of (fh _ _ (sf _ _ h)), SqT.of (fh _ _ (sf _ _ h2)), by omega⟩
  · obtain ⟨T, x1, y1, rfl, hT, rfl, f1, f2⟩ := y
    obtain ⟨d, hd, rd⟩ := q.at (f1 vs (SqT.of (fh _ _ (f _ _ (sf _ _ h)))))
    obtain ⟨e, he, re⟩ := q2.at (f2 ws (SqT.of (fh _ _ (f _ _ (sf _ _ h2)))))
    obtain ⟨g, r⟩ := pair_gr sf2 fh hT (rd.mono s) (re.mono s)
    exact ⟨.tup [d, e], _, _, zipD_at hd he, g, r⟩
def diZip (da : DA) : DI := fun env C => da env fun as env1 => ∃ xs ys, (as = [.lst xs, .lst ys] ∨ as = [.tup xs, .tup ys]) ∧ C (zipD xs ys) env1
instance {K : PySem.W.Frag} {ta : TA} {da : DA} [h : AbsA ta da] : AbsI (iZipA K ta) (diZip da) := ⟨fun σ Hs Fr H env R C er sf fh hd k => by
  refine h.run σ Hs Fr H env _ _ er sf fh hd fun vs as env1 Hs1 Fr1 H1 r1 s1 sf1 fh1 p1 h1 => ?_
  obtain ⟨xs, ys, e, h1⟩ := h1
  rcases e with rfl | rfl
  · obtain ⟨v, w, rfl, rv, rw'⟩ := p1.two
    obtain ⟨a, us, rfl, ha, qa⟩ := rv.lst_inv
    obtain ⟨b, ws, rfl, hb, qb⟩ := rw'.lst_inv
    exact ⟨a, b, us, ws, rfl, .inl ⟨SqL.of ((sf1.trans fh1) _ _ ha), SqL.of ((sf1.trans fh1) _ _ hb), k _ _ env1 Hs1 Fr1 H1 r1 s1 sf1 fh1 (feeds_zl sf1 ha qa hb qb) h1⟩⟩
  · obtain ⟨v, w, rfl, rv, rw'⟩ := p1.two
    obtain ⟨a, us, rfl, ha, qa⟩ := rv.tup_inv
    obtain ⟨b, ws, rfl, hb, qb⟩ := rw'.tup_inv
    exact ⟨a, b, us, ws, rfl, .inr ⟨SqT.of ((sf1.trans fh1) _ _ ha), SqT.of ((sf1.trans fh1) _ _ hb), k _ _ env1 Hs1 Fr1 H1 r1 s1 sf1 fh1 (feeds_zt sf1 ha qa hb qb) h1⟩⟩⟩
def enumD (xs : List D) : List D := xs.mapIdx fun i x => .tup [.int (i : Nat), x]
theorem enumD_len (xs : List D) : (enumD xs).length = xs.length := by simp [enumD]
theorem enumD_at {xs : List D} {i : Nat} {x : D} (h : xs[i]? = some x) : (enumD xs)[i]? = some (.tup [.int (i : Nat), x]) := by
  unfold enumD
  rw [List.getElem?_mapIdx, h]
  rfl
theorem feeds_el {K : PySem.W.Frag} {Hs Fr : Hp} {a : Addr} {vs : List V} {ds : List D} (sf : Same Hs Fr) (h : Hs a = some (.lst vs)) (q : RpA Hs vs ds) : Feeds Hs Fr (Ite K a) (enumD ds) := by
  have l1 := q.1
  have len := enumD_len ds
  refine ⟨fun i H hi fh => ?_, fun i H hi fh => ?_, fun Hs2 Fr2 H i x H' s f sf2 fh hi y => ?_⟩
  · exact ⟨vs, vs[i]'(by omega), SqL.of (fh _ _ (sf _ _ h)), List.getElem?_eq_getElem _⟩
  · exact ⟨vs, SqL.of (fh _ _ (sf _ _ h)), by omega⟩
  · obtain ⟨T, x1, rfl, hT, rfl, f1⟩ := y
    obtain ⟨d, hd, rd⟩ := q.at (f1 vs (SqL.of (fh _ _ (f _ _ (sf _ _ h)))))
    obtain ⟨g, r⟩ := pair_gr sf2 fh hT (Rp.int (H := Hs2) ((i : Nat) : Int)) (rd.mono s)
    exact ⟨_, _, _, enumD_at hd, g, r⟩
def diEnum (da : DA) : DI := fun env C => da env fun as env1 => ∃ xs, as = [.lst xs] ∧ C (enumD xs) env1
instance {K : PySem.W.Frag} {ta : TA} {da : DA} [h : AbsA ta da] : AbsI (iEnum K ta) (diEnum da) := ⟨fun σ Hs Fr H env R C er sf fh hd k => by
  refine h.run σ Hs Fr H env _ _ er sf fh hd fun vs as env1 Hs1 Fr1 H1 r1 s1 sf1 fh1 p1 h1 => ?_
  obtain ⟨xs, rfl, h1⟩ := h1
  obtain ⟨v, rfl, rv⟩ := p1.one
  obtain ⟨a, us, rfl, ha, qa⟩ := rv.lst_inv
  exact ⟨a, us, rfl, SqL.of ((sf1.trans fh1) _ _ ha), k _ _ env1 Hs1 Fr1 H1 r1 s1 sf1 fh1 (feeds_el sf1 ha qa) h1⟩⟩

/-! ### targets -/
abbrev DG := D → Env → (Env → Prop) → Prop
def free (env : Env) (i : Nat) : Bool := match env[i]? with
  | some (some (.o _)) => false
  | some _ => true
  | none => false
class AbsG (g : TG) (dg : outParam DG) (js : outParam (List Nat)) : Prop where
  run : ∀ (v : V) (d : D) (σ : L2.St) (Hs Fr H : Hp) (env : Env) (Q : L2.St → Hp → Prop) (C : Env → Prop), EnvR Hs Fr H σ env → Same Hs Fr → Same Fr H → Rp Hs v d → dg d env C →
    (∀ σ' env', EnvR Hs Fr H σ' env' → (∀ k, k ∉ js → σ'[k]? = σ[k]? ∧ env'[k]? = env[k]?) → (∀ k ∈ js, free env k = true) → σ'.length = σ.length → C env' → Q σ' H) → g v σ H Q
class AbsGs (g : TGs) (dg : outParam (List D → Env → (Env → Prop) → Prop)) (js : outParam (List Nat)) : Prop where
  run : ∀ (v : List V) (d : List D) (σ : L2.St) (Hs Fr H : Hp) (env : Env) (Q : L2.St → Hp → Prop) (C : Env → Prop), EnvR Hs Fr H σ env → Same Hs Fr → Same Fr H → RpA Hs v d → dg d env C →
    (∀ σ' env', EnvR Hs Fr H σ' env' → (∀ k, k ∉ js → σ'[k]? = σ[k]? ∧ env'[k]? = env[k]?) → (∀ k ∈ js, free env k = true) → σ'.length = σ.length → C env' → Q σ' H) → g v σ H Q
def dgN (i : Nat) : DG := fun d env C => free env i = true ∧ C (env.set i (some (.d d)))
instance {i : Nat} : AbsG (gName i) (dgN i) [i] := ⟨fun v d σ Hs Fr H env Q C er sf fh rp h k => by
  obtain ⟨h1, h⟩ := h
  refine k _ _ (er.setD i rp) (fun j hj => ?_) (fun j hj => ?_) (by simp) h
  · have : i ≠ j := fun z => hj (by simp [z])
    exact ⟨List.getElem?_set_ne this, List.getElem?_set_ne this⟩
  · have e : j = i := by simpa using hj
    rw [e]; exact h1⟩
def dgNil : List D → Env → (Env → Prop) → Prop := fun ds env C => ds = [] ∧ C env
def dgCons (g : DG) (gs : List D → Env → (Env → Prop) → Prop) : List D → Env → (Env → Prop) → Prop := fun ds env C => ∃ d r, ds = d :: r ∧ g d env fun env1 => gs r env1 C
theorem free_mono {env env1 : Env} {js : List Nat} (h : ∀ k, k ∉ js → env1[k]? = env[k]?) (hf : ∀ k ∈ js, free env k = true) {k : Nat} (h1 : free env1 k = true) : free env k = true := by
  by_cases q : k ∈ js
  · exact hf k q
  · unfold free at h1 ⊢
    rw [← h k q]; exact h1
instance : AbsGs gNil dgNil [] := ⟨fun v d σ Hs Fr H env Q C er sf fh rp h k => by
  obtain ⟨rfl, h⟩ := h
  have : v = [] := by
    have := rp.1
    simpa using this
  exact ⟨this, k σ env er (fun _ _ => ⟨rfl, rfl⟩) (fun _ z => by simp at z) rfl h⟩⟩
instance {g : TG} {gs : TGs} {dg dgs} {js ks : List Nat} [a : AbsG g dg js] [b : AbsGs gs dgs ks] : AbsGs (gCons g gs) (dgCons dg dgs) (js ++ ks) := ⟨fun v d σ Hs Fr H env Q C er sf fh rp h k => by
  obtain ⟨x, r, rfl, h⟩ := h
  match v, rp with
  | y :: w, rp =>
    have rx : Rp Hs y x := rp.2 0 y x rfl rfl
    have rr : RpA Hs w r := ⟨by have := rp.1; simpa using this, fun i v d a b => rp.2 (i + 1) v d (by simpa using a) (by simpa using b)⟩
    refine ⟨y, w, rfl, a.run y x σ Hs Fr H env _ _ er sf fh rx h fun σ1 env1 er1 k1 f1 l1 h1 => ?_⟩
    refine b.run w r σ1 Hs Fr H env1 _ _ er1 sf fh rr h1 fun σ2 env2 er2 k2 f2 l2 h2 => ?_
    refine k σ2 env2 er2 (fun j hj => ?_) (fun j hj => ?_) (l2.trans l1) h2
    · have h1 : j ∉ js := fun z => hj (by simp [z])
      have h2 : j ∉ ks := fun z => hj (by simp [z])
      exact ⟨(k2 j h2).1.trans (k1 j h1).1, (k2 j h2).2.trans (k1 j h1).2⟩
    · rcases List.mem_append.mp hj with z | z
      · exact f1 j z
      · exact free_mono (fun q hq => (k1 q hq).2) f1 (f2 j z)⟩
def dgTup (n : Nat) (gs : List D → Env → (Env → Prop) → Prop) : DG := fun d env C => ∃ xs, d = .tup xs ∧ xs.length = n ∧ gs xs env C
instance {K : PySem.W.Frag} {n : Nat} {gs : TGs} {dgs} {js : List Nat} [a : AbsGs gs dgs js] : AbsG (gTup K n gs) (dgTup n dgs) js := ⟨fun v d σ Hs Fr H env Q C er sf fh rp h k => by
  obtain ⟨xs, rfl, hl, h⟩ := h
  obtain ⟨p, vs, rfl, e, q⟩ := rp.tup_inv
  exact ⟨p, vs, rfl, SqT.of ((sf.trans fh) _ _ e), by rw [q.1]; exact hl, a.run vs xs σ Hs Fr H env Q C er sf fh q h k⟩⟩

/-! ### comprehensions -/
def wipeE (env : Env) : List Nat → Env
  | [] => env
  | v :: vs => (wipeE env vs).set v none
theorem wipeE_len (env : Env) : ∀ vs, (wipeE env vs).length = env.length
  | [] => rfl
  | v :: vs => by unfold wipeE; rw [List.length_set, wipeE_len env vs]
theorem wipe_at {σ : L2.St} : ∀ {vs : List Nat} {i : Nat}, i ∉ vs → (wipe σ vs)[i]? = σ[i]?
  | [], i, _ => rfl
  | v :: vs, i, h => by
    unfold wipe
    rw [List.getElem?_set_ne (fun z => h (by simp [z])), wipe_at (fun z => h (by simp [z]))]
theorem wipe_in {σ : L2.St} : ∀ {vs : List Nat} {i : Nat}, i ∈ vs → i < σ.length → (wipe σ vs)[i]? = some none
  | [], i, h, _ => by simp at h
  | v :: vs, i, h, hl => by
    unfold wipe
    by_cases q : v = i
    · subst q
      exact List.getElem?_set_self (by rw [wipe_length]; exact hl)
    · rw [List.getElem?_set_ne q]
      exact wipe_in (by rcases List.mem_cons.mp h with z | z; exact absurd z.symm q; exact z) hl
theorem wipeE_at {σ : Env} : ∀ {vs : List Nat} {i : Nat}, i ∉ vs → (wipeE σ vs)[i]? = σ[i]?
  | [], i, _ => rfl
  | v :: vs, i, h => by
    unfold wipeE
    rw [List.getElem?_set_ne (fun z => h (by simp [z])), wipeE_at (fun z => h (by simp [z]))]
theorem wipeE_in {σ : Env} : ∀ {vs : List Nat} {i : Nat}, i ∈ vs → i < σ.length → (wipeE σ vs)[i]? = some none
  | [], i, h, _ => by simp at h
  | v :: vs, i, h, hl => by
    unfold wipeE
    by_cases q : v = i
    · subst q
      exact List.getElem?_set_self (by rw [wipeE_len]; exact hl)
    · rw [List.getElem?_set_ne q]
      exact wipeE_in (by rcases List.mem_cons.mp h with z | z; exact absurd z.symm q; exact z) hl
theorem wipe_ext {σ σ' : L2.St} {vs : List Nat} (hl : σ'.length = σ.length) (h : ∀ k, k ∉ vs → σ'[k]? = σ[k]?) : wipe σ' vs = wipe σ vs := by
  apply List.ext_getElem?
  intro i
  by_cases q : i ∈ vs
  · by_cases r : i < σ.length
    · rw [wipe_in q r, wipe_in q (by omega)]
    · rw [List.getElem?_eq_none (by rw [wipe_length]; omega), List.getElem?_eq_none (by rw [wipe_length]; omega)]
  · rw [wipe_at q, wipe_at q, h i q]
/-- no object of one's own at these slots -/
def NoOwn (env : Env) (vs : List Nat) : Prop := ∀ k ∈ vs, ∀ e, env[k]? = some (some e) → ∃ d, e = .d d
def noOwnB (env : Env) (vs : List Nat) : Bool := vs.all fun k => match env[k]? with
  | some (some (.l _)) => false
  | some (some (.o _)) => false
  | _ => true
theorem noOwn_of {env : Env} {vs : List Nat} (h : noOwnB env vs = true) : NoOwn env vs := fun k hk e he => by
  have := List.all_eq_true.mp h k hk
  rw [he] at this
  cases e with
  | d x => exact ⟨x, rfl⟩
  | l _ => cases this
  | o _ => cases this
theorem EnvF.merge {Hs Fr H : Hp} {σ σ2 : L2.St} {env env2 : Env} {fp : Nat → List Addr} {vs : List Nat} (r : EnvF Hs Fr H σ2 env2 fp) (hl : σ.length = env.length)
    (h : ∀ k, k ∉ vs → env2[k]? = env[k]? ∧ σ2[k]? = σ[k]?) (hv : ∀ k ∈ vs, ∀ e, env[k]? = some (some e) → ∃ d v, e = .d d ∧ σ[k]? = some (some v) ∧ Rp Hs v d) : EnvF Hs Fr H σ env (fun k => if k ∈ vs then [] else fp k) := by
  refine ⟨hl, fun i e he => ?_, fun i e he a ha => ?_, fun i j e e' hij h1 h2 a ha => ?_⟩
  · by_cases q : i ∈ vs
    · obtain ⟨d, v, rfl, h1, h2⟩ := hv i q e he
      exact ⟨v, h1, h2, by simp [q]⟩
    · obtain ⟨v, h1, h2⟩ := r.at_ i e (by rw [(h i q).1]; exact he)
      exact ⟨v, by rw [← (h i q).2]; exact h1, by simp only [q, if_false]; exact h2⟩
  · by_cases q : i ∈ vs
    · simp [q] at ha
    · simp only [q, if_false] at ha
      exact r.fr i e (by rw [(h i q).1]; exact he) a ha
  · by_cases q : i ∈ vs
    · simp [q] at ha
    · simp only [q, if_false] at ha
      by_cases q2 : j ∈ vs
      · simp [q2]
      · simp only [q2, if_false]
        exact r.dis i j e e' hij (by rw [(h i q).1]; exact h1) (by rw [(h j q2).1]; exact h2) a ha
class AbsN (te : TE) (dn : outParam DA) : Prop where
  run : ∀ (σ : L2.St) (Hs Fr H : Hp) (env : Env) (Q : VK) (C : List D → Env → Prop), EnvR Hs Fr H σ env → Same Hs Fr → Same Fr H → dn env C →
    (∀ p vs ds env' Hs' Fr' H' Fe, EnvR Hs' Fe H' σ env' → Stp Hs Fr Hs' Fr' → Same Hs' Fr' → Same Fr' Fe → Same Fe H' → (∀ a, a ≠ p → Fe a = Fr' a) → Fr' p = none → Fe p = some (.lst vs) → RpA Hs' vs ds → C ds env' → Q (.ref p) H') → te σ H Q
def dLcN (di : DI) (dg : DG) (js : List Nat) (dt : DT) (de : DE) (vs : List Nat) : DA := fun env C => (∀ j ∈ js, j ∈ vs) ∧ di env fun xs env1 => xs.length ≤ 100000 ∧ noOwnB env1 vs = true ∧ ∃ W : Nat → List D → Prop, W 0 [] ∧ ∀ i acc, acc.length ≤ i → W i acc →
  (∀ x, xs[i]? = some x → dg x (wipeE env1 vs) fun env2 => dt env2 fun b env3 => if b = true then de env3 fun y env4 => env4 = env2 ∧ W (i + 1) (acc ++ [y]) else env3 = env2 ∧ W (i + 1) acc) ∧ (i = xs.length → C acc env1)
/-- the state in a comprehension's loop -/
structure LcI (Hs1 Fr1 : Hp) (σ : L2.St) (env1 : Env) (p : Addr) (W : Nat → List D → Prop) (i : Nat) (H : Hp) (acc : List D) (vacc : List V) (Hs Fe : Hp) : Prop where
  ss : Same Hs1 Hs
  ff : Same Fr1 Fe
  sep : ∀ a, Fr1 a ≠ none → Hs1 a = none → Hs a = none
  se : Same Hs Fe
  np : Hs p = none
  fp : Fe p = some (.lst vacc)
  eh : Same Fe H
  er : EnvR Hs Fe H σ env1
  ra : RpA Hs vacc acc
  la : acc.length ≤ i
  w : W i acc
theorem EnvF.frz {Hs Fr H Hs' Fr' H' : Hp} {σ : L2.St} {env : Env} {fp : Nat → List Addr} {p : Addr} (r : EnvF Hs Fr H σ env fp) (s : Same Hs Hs') (hp : ∀ (i : Nat) e, env[i]? = some (some e) → p ∉ fp i) (h : ∀ a, a ≠ p → H' a = H a) (f : ∀ a, a ≠ p → Fr a = none → Fr' a = none) : EnvF Hs' Fr' H' σ env fp := by
  refine ⟨r.len, fun i e he => ?_, fun i e he a ha => ?_, r.dis⟩
  · obtain ⟨v, h1, h2⟩ := r.at_ i e he
    exact ⟨v, h1, En.mono h2 s fun a ha => h a fun z => hp i e he (z ▸ ha)⟩
  · exact f a (fun z => hp i e he (z ▸ ha)) (r.fr i e he a ha)
theorem EnvF.not {Hs Fr H : Hp} {σ : L2.St} {env : Env} {fp : Nat → List Addr} {p : Addr} (r : EnvF Hs Fr H σ env fp) (h : Fr p ≠ none ∨ H p = none) : ∀ (i : Nat) e, env[i]? = some (some e) → p ∉ fp i := fun i e he hm => by
  rcases h with h | h
  · exact h (r.fr i e he p hm)
  · obtain ⟨v, h1, h2⟩ := r.at_ i e he
    exact En.known h2 p hm h
theorem ne_some {H : Hp} {p : Addr} {o : HO} (h : H p = some o) : H p ≠ none := by rw [h]; exact fun z => by cases z
instance lcN {wi : TI} {g : TG} {tt : TT} {te : TE} {vs : List Nat} {di dg js dt de} [hi : AbsI wi di] [hg : AbsG g dg js] [ht : AbsT tt dt] [he : AbsE te de] : AbsN (tLc wi g tt te vs) (dLcN di dg js dt de vs) := ⟨fun σ Hs Fr H env Q C er sf fh hd k => by
  obtain ⟨hjs, hd⟩ := hd
  refine hi.run σ Hs Fr H env _ _ er sf fh hd fun J xs env1 Hs1 Fr1 H1 r1 s1 sf1 fh1 fd h1 => ?_
  obtain ⟨hlen, hno, W, w0, hw⟩ := h1
  have hno := noOwn_of hno
  intro p hp
  have fp1 : Fr1 p = none := none_of fh1 hp
  have sp1 : Hs1 p = none := none_of sf1 fp1
  refine ⟨fun i m H' => m = xs.length - i ∧ i ≤ xs.length ∧ ∃ acc vacc Hs' Fe, LcI Hs1 Fr1 σ env1 p W i H' acc vacc Hs' Fe, ⟨xs.length, by simp, Nat.zero_le _, [], [], Hs1, upd Fr1 p (.lst []), ?_⟩, ?_⟩
  · obtain ⟨fpf, rf⟩ := r1
    refine ⟨Same.refl _, same_upd (Same.refl _) fp1, fun a _ h => h, same_upd sf1 sp1, sp1, upd_same, same_upd2 fh1, ⟨fpf, rf.frz (Same.refl _) (rf.not (.inr hp)) (fun a ha => upd_ne ha) (fun a ha h => by rw [upd_ne ha]; exact h)⟩, .nil, Nat.le_refl _, w0⟩
  · rintro i m H' ⟨rfl, hi', acc, vacc, Hs', Fe, L⟩
    have feed : Same Fr1 H' := L.ff.trans L.eh
    obtain ⟨hstep, hend⟩ := hw i acc L.la L.w
    by_cases hlt : i < xs.length
    · refine .inr ⟨fd.go i H' hlt feed, fun H'' => ∃ acc vacc Hs'' Fe', LcI Hs1 Fr1 σ env1 p W (i + 1) H'' acc vacc Hs'' Fe', fun H'' ⟨acc', vacc', Hs'', Fe', L'⟩ => ⟨xs.length - (i + 1), by omega, rfl, hlt, acc', vacc', Hs'', Fe', L'⟩, fun x H2 hy => ?_⟩
      obtain ⟨d, Hs2, Fr2, hxd, gr, rx⟩ := fd.yld Hs' Fe H' i x H2 L.ss L.ff L.se L.eh hlt hy
      have er2 : EnvR Hs2 Fr2 H2 σ env1 := L.er.gr gr
      have erw : EnvR Hs2 Fr2 H2 (wipe σ vs) (wipeE env1 vs) := by
        obtain ⟨fpf, rf⟩ := er2
        refine ⟨fpf, rf.weak (by rw [wipe_length, wipeE_len]; exact rf.len) fun j e hj => ?_⟩
        have hjv : j ∉ vs := fun z => by
          by_cases q : j < env1.length
          · rw [wipeE_in z q] at hj; cases hj
          · rw [List.getElem?_eq_none (by rw [wipeE_len]; omega)] at hj; cases hj
        rw [wipeE_at hjv] at hj
        exact ⟨hj, wipe_at hjv⟩
      refine hg.run x d (wipe σ vs) Hs2 Fr2 H2 (wipeE env1 vs) _ _ erw gr.sf gr.fh rx (hstep d hxd) fun σ2 env2 er3 k3 f3 l3 h3 => ?_
      have l3' : σ2.length = σ.length := l3.trans (wipe_length _ _)
      have off : ∀ k, k ∉ vs → env2[k]? = env1[k]? ∧ σ2[k]? = σ[k]? := fun q hq => by
        have hqj : q ∉ js := fun z => hq (hjs q z)
        exact ⟨(k3 q hqj).2.trans (wipeE_at hq), (k3 q hqj).1.trans (wipe_at hq)⟩
      refine ⟨wipe_ext l3' fun q hq => (off q hq).2, ?_⟩
      -- back to the whole environment
      have back : ∀ {Hs5 Fr5 H5 : Hp}, Same Hs2 Hs5 → EnvR Hs5 Fr5 H5 σ2 env2 → EnvR Hs5 Fr5 H5 σ env1 := fun {Hs5 Fr5 H5} s5 e5 => by
        obtain ⟨fpf, rf⟩ := e5
        refine ⟨_, rf.merge (vs := vs) er2.len off fun q hq e hqe => ?_⟩
        obtain ⟨d', rfl⟩ := hno q hq e hqe
        obtain ⟨v', h1, h2⟩ := er2.dat hqe
        exact ⟨d', v', rfl, h1, h2.mono s5⟩
      have hp2 : Fr2 p = some (.lst vacc) := gr.st.f _ _ L.fp
      refine ht.run σ2 Hs2 Fr2 H2 env2 _ _ er3 gr.sf gr.fh h3 fun b env3 Hs3 Fr3 H3 r3 st3 sf3 fh3 hb => ?_
      have hp3 : Fr3 p = some (.lst vacc) := st3.f _ _ hp2
      have np2 : Hs2 p = none := gr.st.sep p (ne_some L.fp) L.np
      have np3 : Hs3 p = none := st3.sep p (ne_some hp2) np2
      cases b with
      | false =>
        obtain ⟨rfl, hw2⟩ := hb
        refine ⟨acc, vacc, Hs3, Fr3, (L.ss.trans gr.st.s).trans st3.s, (L.ff.trans gr.st.f).trans st3.f, fun a h1 h2 => ?_, sf3, np3, hp3, fh3, back st3.s r3, L.ra.mono (gr.st.s.trans st3.s), Nat.le_succ_of_le L.la, hw2⟩
        exact st3.sep a (some_ne (L.ff.trans gr.st.f) h1) (gr.st.sep a (some_ne L.ff h1) (L.sep a h1 h2))
      | true =>
        refine he.run σ2 Hs3 Fr3 H3 env3 _ _ r3 sf3 fh3 hb fun y e env4 Hs4 Fr4 H4 r4 st4 sf4 fh4 ry hc => ?_
        obtain ⟨rfl, hw2⟩ := hc
        have hp4 : Fr4 p = some (.lst vacc) := st4.f _ _ hp3
        have np4 : Hs4 p = none := st4.sep p (ne_some hp3) np3
        refine ⟨vacc, fh4 _ _ hp4, ?_, acc ++ [e], vacc ++ [y], Hs4, upd Fr4 p (.lst (vacc ++ [y])), ?_⟩
        · rw [L.ra.1]; exact szlt (by have := L.la; omega)
        have ras := L.ra.mono ((gr.st.s.trans st3.s).trans st4.s)
        obtain ⟨fpf, rf⟩ := back (st3.s.trans st4.s) r4
        refine ⟨((L.ss.trans gr.st.s).trans st3.s).trans st4.s, fun a o ha => ?_, fun a h1 h2 => ?_, fun a o ha => ?_, np4, upd_same, same_upd2 fh4, ⟨fpf, rf.frz (Same.refl _) (rf.not (.inl (ne_some hp4))) (fun a ha => upd_ne ha) (fun a ha h => by rw [upd_ne ha]; exact h)⟩, ras.snoc ry, ?_, hw2⟩
        · rw [upd_ne (fun z => by rw [z, fp1] at ha; cases ha)]
          exact st4.f _ _ (st3.f _ _ (gr.st.f _ _ (L.ff a o ha)))
        · exact st4.sep a (some_ne ((L.ff.trans gr.st.f).trans st3.f) h1) (st3.sep a (some_ne (L.ff.trans gr.st.f) h1) (gr.st.sep a (some_ne L.ff h1) (L.sep a h1 h2)))
        · rw [upd_ne (fun z => by rw [z, np4] at ha; cases ha)]
          exact sf4 a o ha
        · rw [List.length_append]
          have := L.la
          simp
          omega
    · have e : i = xs.length := by omega
      refine .inl ⟨fd.stop i H' (by omega) feed, ?_⟩
      have ff' : Same Fr1 (fun a => if a = p then none else Fe a) := fun a o ha => by
        have : a ≠ p := fun z => by rw [z, fp1] at ha; cases ha
        show (if a = p then none else Fe a) = some o
        rw [if_neg this]; exact L.ff a o ha
      have sf' : Same Hs' (fun a => if a = p then none else Fe a) := fun a o ha => by
        have : a ≠ p := fun z => by rw [z, L.np] at ha; cases ha
        show (if a = p then none else Fe a) = some o
        rw [if_neg this]; exact L.se a o ha
      have fe' : Same (fun a => if a = p then none else Fe a) Fe := fun a o ha => by
        by_cases q : a = p
        · have ha' : (if a = p then none else Fe a) = some o := ha
          rw [if_pos q] at ha'; cases ha'
        · have ha' : (if a = p then none else Fe a) = some o := ha
          rw [if_neg q] at ha'; exact ha'
      refine k p vacc acc env1 Hs' (fun a => if a = p then none else Fe a) H' Fe L.er (s1.trans ⟨L.ss, ff', L.sep⟩) sf' fe' L.eh (fun a ha => ?_) ?_ L.fp L.ra (hend e)
      · show Fe a = if a = p then none else Fe a
        rw [if_neg ha]
      · show (if p = p then none else Fe p) = none
        rw [if_pos rfl]⟩
/-- a new list, taken as data -/
def dOfN (dn : DA) : DE := fun env C => dn env fun xs env1 => C (.lst xs) env1
theorem absE_of_N {te : TE} {dn : DA} (h : AbsN te dn) : AbsE te (dOfN dn) := ⟨fun σ Hs Fr H env Q C er sf fh hd k => by
  refine h.run σ Hs Fr H env _ _ er sf fh hd fun p vs ds env1 Hs1 Fr1 H1 Fe r1 s1 sf1 fe eh off fp1 ep ra hc => ?_
  have sp1 : Hs1 p = none := none_of sf1 fp1
  have se : Same (upd Hs1 p (.lst vs)) Fe := fun a o ha => by
    by_cases q : a = p
    · rw [q, upd_same] at ha
      rw [q, ep]; exact ha
    · rw [upd_ne q] at ha
      exact fe _ _ (sf1 _ _ ha)
  have ss : Same Hs1 (upd Hs1 p (.lst vs)) := same_upd (Same.refl _) sp1
  obtain ⟨fpf, rf⟩ := r1
  refine k (.ref p) (.lst ds) env1 (upd Hs1 p (.lst vs)) Fe H1 ⟨fpf, rf.frz ss (rf.not (.inl (ne_some ep))) (fun _ _ => rfl) (fun _ _ h => h)⟩ ?_ se eh (.lstA upd_same (ra.mono ss)) hc
  refine ⟨s1.s.trans ss, s1.f.trans fe, fun a h1 h2 => ?_⟩
  have : a ≠ p := fun z => by
    have := some_ne s1.f h1
    rw [z] at this
    exact this fp1
  rw [upd_ne this]
  exact s1.sep a h1 h2⟩
instance {wi : TI} {g : TG} {tt : TT} {te : TE} {vs : List Nat} {di dg js dt de} [hi : AbsI wi di] [hg : AbsG g dg js] [ht : AbsT tt dt] [he : AbsE te de] : AbsE (tLc wi g tt te vs) (dOfN (dLcN di dg js dt de vs)) := absE_of_N (lcN)
def dYes : DT := fun env C => C true env
instance : AbsT tYes dYes := ⟨fun σ Hs Fr H env Q C er sf fh hd k => k true env Hs Fr H er (Stp.refl _ _) sf fh hd⟩
end Lf
set_option Elab.async false
set_option linter.all false
set_option maxRecDepth 100000
set_option maxHeartbeats 4000000
namespace Lf
open PySem PySem.Spec PyProof.Rows L2 RZ

/-! ### statements -/
structure DEnds where
  nx : Env → Prop
  rt : D → Env → Prop
  bk : Env → Prop := fun _ => False
  ct : Env → Prop := fun _ => False
abbrev DS := Env → DEnds → Prop
/-- the slots of objects of one's own hold what they held -/
def Kp (σ : L2.St) (env : Env) (σ' : L2.St) (env' : Env) : Prop := ∀ (i : Nat) (w : Ow), env[i]? = some (some (.o w)) → σ'[i]? = σ[i]? ∧ ∃ w', env'[i]? = some (some (.o w'))
theorem Kp.refl (σ : L2.St) (env : Env) : Kp σ env σ env := fun i w h => ⟨rfl, w, h⟩
theorem Kp.trans {σ σ1 σ2 : L2.St} {env env1 env2 : Env} (a : Kp σ env σ1 env1) (b : Kp σ1 env1 σ2 env2) : Kp σ env σ2 env2 := fun i w h => by
  obtain ⟨h1, w1, h2⟩ := a i w h
  obtain ⟨h3, w2, h4⟩ := b i w1 h2
  exact ⟨h3.trans h1, w2, h4⟩
/-- an expression keeps them -/
def KpE (env env' : Env) : Prop := ∀ (i : Nat) (w : Ow), env[i]? = some (some (.o w)) → ∃ w', env'[i]? = some (some (.o w'))
class AbsS (ts : TS) (ds : outParam DS) : Prop where
  run : ∀ (σ : L2.St) (Hs Fr H : Hp) (env : Env) (D : Ends) (E : DEnds), EnvR Hs Fr H σ env → Same Hs Fr → Same Fr H → ds env E →
    (∀ σ' env' Hs' Fr' H', EnvR Hs' Fr' H' σ' env' → Stp Hs Fr Hs' Fr' → Same Hs' Fr' → Same Fr' H' → Kp σ env σ' env' → E.nx env' → D.nx σ' H') →
    (∀ v d σ' env' Hs' Fr' H', EnvR Hs' Fr' H' σ' env' → Stp Hs Fr Hs' Fr' → Same Hs' Fr' → Same Fr' H' → Kp σ env σ' env' → Rp Hs' v d → E.rt d env' → D.rt v H') →
    (∀ σ' env' Hs' Fr' H', EnvR Hs' Fr' H' σ' env' → Stp Hs Fr Hs' Fr' → Same Hs' Fr' → Same Fr' H' → Kp σ env σ' env' → E.bk env' → D.bk σ' H') →
    (∀ σ' env' Hs' Fr' H', EnvR Hs' Fr' H' σ' env' → Stp Hs Fr Hs' Fr' → Same Hs' Fr' → Same Fr' H' → Kp σ env σ' env' → E.ct env' → D.ct σ' H') → ts D σ H
/-- what an expression makes of the environment: the slots of objects stay such -/
def keepE (env env' : Env) : Prop := ∀ (i : Nat) (w : Ow), env[i]? = some (some (.o w)) → ∃ w', env'[i]? = some (some (.o w'))
def dNext : DS := fun env E => E.nx env
def dSeq (a b : DS) : DS := fun env E => a env { E with nx := fun env1 => b env1 E }
def dRet (de : DE) : DS := fun env E => de env fun d env1 => keepE env env1 ∧ E.rt d env1
def dRetN : DS := fun env E => E.rt .non env
def dBrk : DS := fun env E => E.bk env
def dCnt : DS := fun env E => E.ct env
def dNever : DS := fun _ _ => False
def dIfS (t : DT) (a b : DS) : DS := fun env E => t env fun c env1 => keepE env env1 ∧ if c = true then a env1 E else b env1 E
def dAsg (de : DE) (dg : DG) : DS := fun env E => de env fun x env1 => keepE env env1 ∧ dg x env1 E.nx
def dDrop (de : DE) : DS := fun env E => de env fun _ env1 => keepE env env1 ∧ E.nx env1
instance : AbsS tNext dNext := ⟨fun σ Hs Fr H env D E er sf fh h kn _ _ _ => kn σ env Hs Fr H er (Stp.refl _ _) sf fh (Kp.refl _ _) h⟩
instance : AbsS tBreak dBrk := ⟨fun σ Hs Fr H env D E er sf fh h _ _ kb _ => kb σ env Hs Fr H er (Stp.refl _ _) sf fh (Kp.refl _ _) h⟩
instance : AbsS tCont dCnt := ⟨fun σ Hs Fr H env D E er sf fh h _ _ _ kc => kc σ env Hs Fr H er (Stp.refl _ _) sf fh (Kp.refl _ _) h⟩
instance : AbsS tNever dNever := ⟨fun σ Hs Fr H env D E er sf fh h _ _ _ _ => h⟩
instance : AbsS tRetN dRetN := ⟨fun σ Hs Fr H env D E er sf fh h _ kr _ _ => kr .non .non σ env Hs Fr H er (Stp.refl _ _) sf fh (Kp.refl _ _) .non h⟩
instance {t u : TS} {a b : DS} [ht : AbsS t a] [hu : AbsS u b] : AbsS (tSeq t u) (dSeq a b) := ⟨fun σ Hs Fr H env D E er sf fh h kn kr kb kc => by
  refine ht.run σ Hs Fr H env { D with nx := u D } _ er sf fh h (fun σ1 env1 Hs1 Fr1 H1 r1 s1 sf1 fh1 p1 h1 => ?_) kr kb kc
  refine hu.run σ1 Hs1 Fr1 H1 env1 D E r1 sf1 fh1 h1 ?_ ?_ ?_ ?_
  · exact fun σ2 env2 Hs2 Fr2 H2 r2 s2 sf2 fh2 p2 h2 => kn σ2 env2 Hs2 Fr2 H2 r2 (s1.trans s2) sf2 fh2 (p1.trans p2) h2
  · exact fun v d σ2 env2 Hs2 Fr2 H2 r2 s2 sf2 fh2 p2 rv h2 => kr v d σ2 env2 Hs2 Fr2 H2 r2 (s1.trans s2) sf2 fh2 (p1.trans p2) rv h2
  · exact fun σ2 env2 Hs2 Fr2 H2 r2 s2 sf2 fh2 p2 h2 => kb σ2 env2 Hs2 Fr2 H2 r2 (s1.trans s2) sf2 fh2 (p1.trans p2) h2
  · exact fun σ2 env2 Hs2 Fr2 H2 r2 s2 sf2 fh2 p2 h2 => kc σ2 env2 Hs2 Fr2 H2 r2 (s1.trans s2) sf2 fh2 (p1.trans p2) h2⟩
theorem Kp.ofE {σ : L2.St} {env env1 : Env} (h : keepE env env1) : Kp σ env σ env1 := fun i w hi => ⟨rfl, h i w hi⟩
instance {te : TE} {de : DE} [he : AbsE te de] : AbsS (tRet te) (dRet de) := ⟨fun σ Hs Fr H env D E er sf fh h _ kr _ _ => by
  refine he.run σ Hs Fr H env _ _ er sf fh h fun v d env1 Hs1 Fr1 H1 r1 s1 sf1 fh1 rv h1 => ?_
  exact kr v d σ env1 Hs1 Fr1 H1 r1 s1 sf1 fh1 (.ofE h1.1) rv h1.2⟩
instance {te : TE} {de : DE} [he : AbsE te de] : AbsS (tDrop te) (dDrop de) := ⟨fun σ Hs Fr H env D E er sf fh h kn _ _ _ => by
  refine he.run σ Hs Fr H env _ _ er sf fh h fun v d env1 Hs1 Fr1 H1 r1 s1 sf1 fh1 rv h1 => ?_
  exact kn σ env1 Hs1 Fr1 H1 r1 s1 sf1 fh1 (.ofE h1.1) h1.2⟩
instance {t : TT} {tu tw : TS} {dt : DT} {a b : DS} [ht : AbsT t dt] [hu : AbsS tu a] [hw : AbsS tw b] : AbsS (tIfS t tu tw) (dIfS dt a b) := ⟨fun σ Hs Fr H env D E er sf fh h kn kr kb kc => by
  refine ht.run σ Hs Fr H env _ _ er sf fh h fun c env1 Hs1 Fr1 H1 r1 s1 sf1 fh1 h1 => ?_
  obtain ⟨ke, h1⟩ := h1
  have p1 : Kp σ env σ env1 := .ofE ke
  cases c with
  | true =>
    refine hu.run σ Hs1 Fr1 H1 env1 D E r1 sf1 fh1 h1 ?_ ?_ ?_ ?_
    · exact fun σ2 env2 Hs2 Fr2 H2 r2 s2 sf2 fh2 p2 h2 => kn σ2 env2 Hs2 Fr2 H2 r2 (s1.trans s2) sf2 fh2 (p1.trans p2) h2
    · exact fun v d σ2 env2 Hs2 Fr2 H2 r2 s2 sf2 fh2 p2 rv h2 => kr v d σ2 env2 Hs2 Fr2 H2 r2 (s1.trans s2) sf2 fh2 (p1.trans p2) rv h2
    · exact fun σ2 env2 Hs2 Fr2 H2 r2 s2 sf2 fh2 p2 h2 => kb σ2 env2 Hs2 Fr2 H2 r2 (s1.trans s2) sf2 fh2 (p1.trans p2) h2
    · exact fun σ2 env2 Hs2 Fr2 H2 r2 s2 sf2 fh2 p2 h2 => kc σ2 env2 Hs2 Fr2 H2 r2 (s1.trans s2) sf2 fh2 (p1.trans p2) h2
  | false =>
    refine hw.run σ Hs1 Fr1 H1 env1 D E r1 sf1 fh1 h1 ?_ ?_ ?_ ?_
    · exact fun σ2 env2 Hs2 Fr2 H2 r2 s2 sf2 fh2 p2 h2 => kn σ2 env2 Hs2 Fr2 H2 r2 (s1.trans s2) sf2 fh2 (p1.trans p2) h2
    · exact fun v d σ2 env2 Hs2 Fr2 H2 r2 s2 sf2 fh2 p2 rv h2 => kr v d σ2 env2 Hs2 Fr2 H2 r2 (s1.trans s2) sf2 fh2 (p1.trans p2) rv h2
    · exact fun σ2 env2 Hs2 Fr2 H2 r2 s2 sf2 fh2 p2 h2 => kb σ2 env2 Hs2 Fr2 H2 r2 (s1.trans s2) sf2 fh2 (p1.trans p2) h2
    · exact fun σ2 env2 Hs2 Fr2 H2 r2 s2 sf2 fh2 p2 h2 => kc σ2 env2 Hs2 Fr2 H2 r2 (s1.trans s2) sf2 fh2 (p1.trans p2) h2⟩
/-- what a target's slots leave of the objects -/
theorem Kp.ofG {σ σ' : L2.St} {env env' : Env} {js : List Nat} (k : ∀ q, q ∉ js → σ'[q]? = σ[q]? ∧ env'[q]? = env[q]?) (f : ∀ q ∈ js, free env q = true) : Kp σ env σ' env' := fun i w h => by
  have hi : i ∉ js := fun z => by
    have := f i z
    unfold free at this
    rw [h] at this
    cases this
  exact ⟨(k i hi).1, w, by rw [(k i hi).2]; exact h⟩
instance {te : TE} {de : DE} {g : TG} {dg js} [he : AbsE te de] [hg : AbsG g dg js] : AbsS (tAsg te g) (dAsg de dg) := ⟨fun σ Hs Fr H env D E er sf fh h kn _ _ _ => by
  refine he.run σ Hs Fr H env _ _ er sf fh h fun v d env1 Hs1 Fr1 H1 r1 s1 sf1 fh1 rv h1 => ?_
  refine hg.run v d σ Hs1 Fr1 H1 env1 _ _ r1 sf1 fh1 rv h1.2 fun σ2 env2 r2 k2 f2 l2 h2 => ?_
  exact kn σ2 env2 Hs1 Fr1 H1 r2 s1 sf1 fh1 ((Kp.ofE h1.1).trans (.ofG k2 f2)) h2⟩
/-- a, b = e1, e2 -/
def dPar (i j : Nat) (da : DA) : DS := fun env E => da env fun ds env1 => keepE env env1 ∧ ∃ x y, ds = [x, y] ∧ free env1 i = true ∧ free env1 j = true ∧ E.nx ((env1.set i (some (.d x))).set j (some (.d y)))
theorem Kp.set {σ : L2.St} {env : Env} {i : Nat} (v : Option V) (e : Option En) (f : free env i = true) : Kp σ env (σ.set i v) (env.set i e) := .ofG (js := [i]) (fun q hq => by
    have : i ≠ q := fun z => hq (by simp [z])
    exact ⟨List.getElem?_set_ne this, List.getElem?_set_ne this⟩) (fun q hq => by
    have e : q = i := by simpa using hq
    rw [e]; exact f)
theorem free_set {env : Env} {i j : Nat} {d : D} (h : free env j = true) : free (env.set i (some (.d d))) j = true := by
  unfold free at h ⊢
  by_cases q : i = j
  · subst q
    cases r : env[i]? with
    | none => rw [r] at h; cases h
    | some x =>
      have hl := (List.getElem?_eq_some_iff.mp r).1
      rw [List.getElem?_set_self hl]
  · rw [List.getElem?_set_ne q]; exact h
instance {i j : Nat} {ta : TA} {da : DA} [ha : AbsA ta da] : AbsS (tPar i j ta) (dPar i j da) := ⟨fun σ Hs Fr H env D E er sf fh h kn _ _ _ => by
  refine ha.run σ Hs Fr H env _ _ er sf fh h fun vs ds env1 Hs1 Fr1 H1 r1 s1 sf1 fh1 ra h1 => ?_
  obtain ⟨ke, x, y, rfl, f1, f2, h1⟩ := h1
  obtain ⟨v, w, rfl, rv, rw'⟩ := ra.two
  exact ⟨v, w, rfl, kn _ _ Hs1 Fr1 H1 ((r1.setD i rv).setD j rw') s1 sf1 fh1 (((Kp.ofE ke).trans (.set _ _ f1)).trans (.set _ _ (free_set f2))) h1⟩⟩
/-- x += e (ints) -/
def dAug (i : Nat) (de : DE) (f : Int → Int → Int) : DS := fun env E => ∃ a : Int, env[i]? = some (some (.d (.int a))) ∧ de env fun y env1 => ∃ b : Int, y = .int b ∧ keepE env env1 ∧ free env1 i = true ∧ E.nx (env1.set i (some (.d (.int (f a b)))))
instance {i : Nat} {te : TE} {f : Int → Int → Int} {de : DE} [he : AbsE te de] : AbsS (tAug i te (ipI f)) (dAug i de f) := ⟨fun σ Hs Fr H env D E er sf fh h kn _ _ _ => by
  obtain ⟨a, ha, h⟩ := h
  obtain ⟨v, hv, rv⟩ := er.dat ha
  refine ⟨v, hv, he.run σ Hs Fr H env _ _ er sf fh h fun y d env1 Hs1 Fr1 H1 r1 s1 sf1 fh1 ry h1 => ?_⟩
  obtain ⟨b, rfl, ke, f1, h1⟩ := h1
  exact ⟨a, b, rv.int_inv, ry.int_inv, kn _ _ Hs1 Fr1 H1 (r1.setD i (.int _)) s1 sf1 fh1 ((Kp.ofE ke).trans (.set _ _ f1)) h1⟩⟩
/-- for -/
def dFor (di : DI) (dg : DG) (b : DS) : DS := fun env E => di env fun xs env1 => keepE env env1 ∧ ∃ W : Nat → Env → Prop, W 0 env1 ∧ ∀ i e, W i e →
  (∀ x, xs[i]? = some x → dg x e fun e2 => b e2 { nx := W (i + 1), ct := W (i + 1), bk := E.nx, rt := E.rt }) ∧ (i = xs.length → E.nx e)
instance {wi : TI} {g : TG} {tb : TS} {di dg js b} [hi : AbsI wi di] [hg : AbsG g dg js] [hb : AbsS tb b] : AbsS (tFor wi g tb) (dFor di dg b) := ⟨fun σ Hs Fr H env D E er sf fh h kn kr kb kc => by
  refine hi.run σ Hs Fr H env _ _ er sf fh h fun J xs env1 Hs1 Fr1 H1 r1 s1 sf1 fh1 fd h1 => ?_
  obtain ⟨ke, W, w0, hw⟩ := h1
  have p1 : Kp σ env σ env1 := .ofE ke
  refine ⟨fun i m σ' H' => m = xs.length - i ∧ i ≤ xs.length ∧ ∃ e Hs' Fr', EnvR Hs' Fr' H' σ' e ∧ Stp Hs1 Fr1 Hs' Fr' ∧ Same Hs' Fr' ∧ Same Fr' H' ∧ Kp σ env σ' e ∧ W i e, ⟨xs.length, by simp, Nat.zero_le _, env1, Hs1, Fr1, r1, Stp.refl _ _, sf1, fh1, p1, w0⟩, ?_⟩
  rintro i m σ' H' ⟨rfl, hi', e, Hs', Fr', r', s', sf', fh', p', wi⟩
  obtain ⟨hstep, hend⟩ := hw i e wi
  by_cases hlt : i < xs.length
  · refine .inr ⟨fd.go i H' hlt (s'.f.trans fh'), fun σ'' H'' => ∃ e Hs'' Fr'', EnvR Hs'' Fr'' H'' σ'' e ∧ Stp Hs1 Fr1 Hs'' Fr'' ∧ Same Hs'' Fr'' ∧ Same Fr'' H'' ∧ Kp σ env σ'' e ∧ W (i + 1) e, fun σ'' H'' hN => ⟨xs.length - (i + 1), by omega, rfl, hlt, hN⟩, fun x H2 hy => ?_⟩
    obtain ⟨d, Hs2, Fr2, hxd, gr, rx⟩ := fd.yld Hs' Fr' H' i x H2 s'.s s'.f sf' fh' hlt hy
    refine hg.run x d σ' Hs2 Fr2 H2 e _ _ (r'.gr gr) gr.sf gr.fh rx (hstep d hxd) fun σ3 e3 r3 k3 f3 l3 h3 => ?_
    have s3 : Stp Hs1 Fr1 Hs2 Fr2 := s'.trans gr.st
    have p3 : Kp σ env σ3 e3 := p'.trans (.ofG k3 f3)
    refine hb.run σ3 Hs2 Fr2 H2 e3 _ _ r3 gr.sf gr.fh h3 ?_ ?_ ?_ ?_
    · exact fun σ4 e4 Hs4 Fr4 H4 r4 s4 sf4 fh4 p4 h4 => ⟨e4, Hs4, Fr4, r4, s3.trans s4, sf4, fh4, p3.trans p4, h4⟩
    · exact fun v d σ4 e4 Hs4 Fr4 H4 r4 s4 sf4 fh4 p4 rv h4 => kr v d σ4 e4 Hs4 Fr4 H4 r4 (s1.trans (s3.trans s4)) sf4 fh4 (p3.trans p4) rv h4
    · exact fun σ4 e4 Hs4 Fr4 H4 r4 s4 sf4 fh4 p4 h4 => kn σ4 e4 Hs4 Fr4 H4 r4 (s1.trans (s3.trans s4)) sf4 fh4 (p3.trans p4) h4
    · exact fun σ4 e4 Hs4 Fr4 H4 r4 s4 sf4 fh4 p4 h4 => ⟨e4, Hs4, Fr4, r4, s3.trans s4, sf4, fh4, p3.trans p4, h4⟩
  · exact .inl ⟨fd.stop i H' (by omega) (s'.f.trans fh'), kn σ' e Hs' Fr' H' r' (s1.trans s') sf' fh' p' (hend (by omega))⟩⟩
/-- while -/
def dWhile (t : DT) (b : DS) : DS := fun env E => ∃ W : Nat → Env → Prop, (∃ m, W m env) ∧ ∀ m e, W m e →
  t e fun c e1 => keepE e e1 ∧ if c = true then b e1 { nx := fun e2 => ∃ m', m' < m ∧ W m' e2, ct := fun e2 => ∃ m', m' < m ∧ W m' e2, bk := E.nx, rt := E.rt } else E.nx e1
theorem tWhile_eq (c : TT) (tb : TS) : tWhile c tb = fun D σ H => ∃ W : Nat → L2.St → Hp → Prop, (∃ m, W m σ H) ∧ ∀ m σ H, W m σ H → c σ H fun b H1 => if b = true then ∃ N : L2.St → Hp → Prop, (∀ σ' H', N σ' H' → ∃ m', m' < m ∧ W m' σ' H') ∧ tb { D with nx := N, ct := N, bk := D.nx } σ H1 else D.nx σ H1 := rfl
instance {t : TT} {tb : TS} {dt b} [ht : AbsT t dt] [hb : AbsS tb b] : AbsS (tWhile t tb) (dWhile dt b) := ⟨fun σ Hs Fr H env D E er sf fh h kn kr kb kc => by
  obtain ⟨W, ⟨m0, w0⟩, hw⟩ := h
  rw [tWhile_eq]
  refine ⟨fun m σ' H' => ∃ e Hs' Fr', EnvR Hs' Fr' H' σ' e ∧ Stp Hs Fr Hs' Fr' ∧ Same Hs' Fr' ∧ Same Fr' H' ∧ Kp σ env σ' e ∧ W m e, ⟨m0, env, Hs, Fr, er, Stp.refl _ _, sf, fh, Kp.refl _ _, w0⟩, ?_⟩
  rintro m σ' H' ⟨e, Hs', Fr', r', s', sf', fh', p', wm⟩
  refine ht.run σ' Hs' Fr' H' e _ _ r' sf' fh' (hw m e wm) fun c e1 Hs1 Fr1 H1 r1 s1 sf1 fh1 h1 => ?_
  obtain ⟨ke, h1⟩ := h1
  have p1 : Kp σ env σ' e1 := p'.trans (.ofE ke)
  have s1' : Stp Hs Fr Hs1 Fr1 := s'.trans s1
  cases c with
  | false => exact kn σ' e1 Hs1 Fr1 H1 r1 s1' sf1 fh1 p1 h1
  | true =>
    refine ⟨fun σ'' H'' => ∃ m', m' < m ∧ ∃ e Hs'' Fr'', EnvR Hs'' Fr'' H'' σ'' e ∧ Stp Hs Fr Hs'' Fr'' ∧ Same Hs'' Fr'' ∧ Same Fr'' H'' ∧ Kp σ env σ'' e ∧ W m' e, fun σ'' H'' ⟨m', hm, hN⟩ => ⟨m', hm, hN⟩, ?_⟩
    refine hb.run σ' Hs1 Fr1 H1 e1 _ _ r1 sf1 fh1 h1 ?_ ?_ ?_ ?_
    · exact fun σ4 e4 Hs4 Fr4 H4 r4 s4 sf4 fh4 p4 ⟨m', hm, h4⟩ => ⟨m', hm, e4, Hs4, Fr4, r4, s1'.trans s4, sf4, fh4, p1.trans p4, h4⟩
    · exact fun v d σ4 e4 Hs4 Fr4 H4 r4 s4 sf4 fh4 p4 rv h4 => kr v d σ4 e4 Hs4 Fr4 H4 r4 (s1'.trans s4) sf4 fh4 (p1.trans p4) rv h4
    · exact fun σ4 e4 Hs4 Fr4 H4 r4 s4 sf4 fh4 p4 h4 => kn σ4 e4 Hs4 Fr4 H4 r4 (s1'.trans s4) sf4 fh4 (p1.trans p4) h4
    · exact fun σ4 e4 Hs4 Fr4 H4 r4 s4 sf4 fh4 p4 ⟨m', hm, h4⟩ => ⟨m', hm, e4, Hs4, Fr4, r4, s1'.trans s4, sf4, fh4, p1.trans p4, h4⟩⟩

/-! ### lists of one's own -/
/-- a name gets a new list that it may change -/
def tAsgO (te : TE) (i : Nat) : TS := tAsg te (gName i)
def dAsgO (dn : DA) (i : Nat) : DS := fun env E => dn env fun xs env1 => keepE env env1 ∧ free env1 i = true ∧ E.nx (env1.set i (some (.l xs)))
theorem EnvF.setL {Hs Fr H : Hp} {σ : L2.St} {env : Env} {fp : Nat → List Addr} (r : EnvF Hs Fr H σ env fp) (i : Nat) {p : Addr} {vs : List V} {xs : List D} (h : H p = some (.lst vs)) (q : RpA Hs vs xs) (hf : Fr p = none) (hn : ∀ (j : Nat) e, env[j]? = some (some e) → p ∉ fp j) :
    EnvF Hs Fr H (σ.set i (some (.ref p))) (env.set i (some (.l xs))) (fun j => if j = i then [p] else fp j) := by
  refine ⟨by simp [r.len], fun j e he => ?_, fun j e he a ha => ?_, fun j k e e' hjk h1 h2 a ha => ?_⟩
  · by_cases q' : j = i
    · subst q'
      have hl : j < env.length := by
        have := (List.getElem?_eq_some_iff.mp he).1
        simpa using this
      rw [List.getElem?_set_self hl] at he
      cases he
      exact ⟨_, List.getElem?_set_self (by rw [r.len]; exact hl), p, vs, rfl, by simp, h, q⟩
    · rw [List.getElem?_set_ne (Ne.symm q')] at he
      obtain ⟨u, h1, h2⟩ := r.at_ j e he
      exact ⟨u, by rw [List.getElem?_set_ne (Ne.symm q')]; exact h1, by simp only [if_neg q']; exact h2⟩
  · by_cases q' : j = i
    · rw [if_pos q'] at ha
      have : a = p := by simpa using ha
      rw [this]; exact hf
    · rw [if_neg q'] at ha
      rw [List.getElem?_set_ne (Ne.symm q')] at he
      exact r.fr j e he a ha
  · by_cases q' : j = i
    · rw [if_pos q'] at ha
      have : a = p := by simpa using ha
      rw [this]
      have hk : k ≠ i := fun z => hjk (q'.trans z.symm)
      rw [if_neg hk]
      rw [List.getElem?_set_ne (Ne.symm hk)] at h2
      exact hn k e' h2
    · rw [if_neg q'] at ha
      rw [List.getElem?_set_ne (Ne.symm q')] at h1
      by_cases q2 : k = i
      · rw [if_pos q2]
        intro z
        have : a = p := by simpa using z
        rw [this] at ha
        exact hn j e h1 ha
      · rw [if_neg q2]
        rw [List.getElem?_set_ne (Ne.symm q2)] at h2
        exact r.dis j k e e' hjk h1 h2 a ha
instance {te : TE} {dn : DA} {i : Nat} [he : AbsN te dn] : AbsS (tAsgO te i) (dAsgO dn i) := ⟨fun σ Hs Fr H env D E er sf fh h kn _ _ _ => by
  refine he.run σ Hs Fr H env _ _ er sf fh h fun p vs ds env1 Hs1 Fr1 H1 Fe r1 s1 sf1 fe eh off fp1 ep ra hc => ?_
  obtain ⟨ke, f1, h1⟩ := hc
  obtain ⟨fpf, rf⟩ := r1
  have nin := rf.not (.inl (ne_some ep))
  have rf' : EnvF Hs1 Fr1 H1 σ env1 fpf := ⟨rf.len, rf.at_, fun i e he a ha => by
    have hne : a ≠ p := fun z => nin i e he (z ▸ ha)
    rw [← off a hne]; exact rf.fr i e he a ha, rf.dis⟩
  exact kn _ _ Hs1 Fr1 H1 ⟨_, rf'.setL i (eh _ _ ep) ra fp1 nin⟩ s1 sf1 (fe.trans eh) ((Kp.ofE ke).trans (.set _ _ f1)) h1⟩
instance lstN {ta : TA} {da : DA} [ha : AbsA ta da] : AbsN (tLst ta) (fun env C => da env fun xs env1 => xs.length ≤ 100000 ∧ C xs env1) := ⟨fun σ Hs Fr H env Q C er sf fh h k => by
  refine ha.run σ Hs Fr H env _ _ er sf fh h fun xs as env1 Hs1 Fr1 H1 r1 s1 sf1 fh1 p1 h1 => ?_
  refine ⟨by rw [p1.1]; exact szl h1.1, fun p hp => ?_⟩
  have fp1 : Fr1 p = none := none_of fh1 hp
  obtain ⟨fpf, rf⟩ := r1
  exact k p xs as env1 Hs1 Fr1 (upd H1 p (.lst xs)) (upd Fr1 p (.lst xs)) ⟨fpf, rf.frz (Same.refl _) (rf.not (.inr hp)) (fun a ha => upd_ne ha) (fun a ha h => by rw [upd_ne ha]; exact h)⟩ s1 sf1 (same_upd (Same.refl _) fp1) (same_upd2 fh1) (fun a ha => upd_ne ha) fp1 upd_same p1 h1.2⟩
instance listN {K : PySem.W.Frag} {ta : TA} {da : DA} [ha : AbsA ta da] : AbsN (tCB (rListQ K) ta) (fun env C => da env fun as env1 => ∃ a xs, as = [a] ∧ a.items? = some xs ∧ C xs env1) := ⟨fun σ Hs Fr H env Q C er sf fh h k => by
  refine ha.run σ Hs Fr H env _ _ er sf fh h fun xs as env1 Hs1 Fr1 H1 r1 s1 sf1 fh1 p1 h1 => ?_
  obtain ⟨a, ds, rfl, e, h⟩ := h1
  obtain ⟨v, rfl, rv⟩ := p1.one
  have fin : ∀ (vs : List V), RpA Hs1 vs ds → ∀ l, H1 l = none → Q (.ref l) (upd H1 l (.lst vs)) := fun vs q l hl => by
    have fp1 : Fr1 l = none := none_of fh1 hl
    obtain ⟨fpf, rf⟩ := r1
    exact k l vs ds env1 Hs1 Fr1 (upd H1 l (.lst vs)) (upd Fr1 l (.lst vs)) ⟨fpf, rf.frz (Same.refl _) (rf.not (.inr hl)) (fun a ha => upd_ne ha) (fun a ha h => by rw [upd_ne ha]; exact h)⟩ s1 sf1 (same_upd (Same.refl _) fp1) (same_upd2 fh1) (fun a ha => upd_ne ha) fp1 upd_same q h
  cases a with
  | lst ys =>
    cases e
    obtain ⟨p, vs, rfl, e, q⟩ := rv.lst_inv
    exact ⟨p, vs, rfl, .inl (SqL.of ((sf1.trans fh1) _ _ e)), fin vs q⟩
  | tup ys =>
    cases e
    obtain ⟨p, vs, rfl, e, q⟩ := rv.tup_inv
    exact ⟨p, vs, rfl, .inr (SqT.of ((sf1.trans fh1) _ _ e)), fin vs q⟩
  | _ => cases e⟩
theorem EnvR.own {Hs Fr H : Hp} {σ : L2.St} {env : Env} (r : EnvR Hs Fr H σ env) {i : Nat} {xs : List D} (h : env[i]? = some (some (.l xs))) : ∃ p vs, σ[i]? = some (some (.ref p)) ∧ H p = some (.lst vs) ∧ RpA Hs vs xs ∧ Fr p = none := by
  obtain ⟨fp, r⟩ := r
  obtain ⟨v, h1, q, vs, rfl, h2, h3, h4⟩ := r.at_ i _ h
  exact ⟨q, vs, h1, h3, h4, r.fr i _ h q (by rw [h2]; simp)⟩
/-- the list of a slot is changed -/
theorem EnvF.updL {Hs Fr H : Hp} {σ : L2.St} {env : Env} {fp : Nat → List Addr} (r : EnvF Hs Fr H σ env fp) {i : Nat} {xs : List D} (h : env[i]? = some (some (.l xs))) {p : Addr} (hp : σ[i]? = some (some (.ref p))) {ws : List V} {ys : List D} (q : RpA Hs ws ys) :
    EnvF Hs Fr (upd H p (.lst ws)) σ (env.set i (some (.l ys))) fp := by
  obtain ⟨v, h1, q', vs, rfl, h2, h3, h4⟩ := r.at_ i _ h
  rw [hp] at h1
  cases h1
  have hl : i < env.length := (List.getElem?_eq_some_iff.mp h).1
  have back : ∀ j e, (env.set i (some (.l ys)))[j]? = some (some e) → (j = i ∧ e = .l ys) ∨ (j ≠ i ∧ env[j]? = some (some e)) := fun j e he => by
    by_cases z : j = i
    · subst z
      rw [List.getElem?_set_self hl] at he
      cases he
      exact .inl ⟨rfl, rfl⟩
    · rw [List.getElem?_set_ne (Ne.symm z)] at he
      exact .inr ⟨z, he⟩
  have some_ : ∀ j e, (env.set i (some (.l ys)))[j]? = some (some e) → ∃ e', env[j]? = some (some e') := fun j e he => by
    rcases back j e he with ⟨rfl, _⟩ | ⟨_, z⟩
    · exact ⟨_, h⟩
    · exact ⟨_, z⟩
  refine ⟨by simp [r.len], fun j e he => ?_, fun j e he a ha => ?_, fun j k e e' hjk h5 h6 a ha => ?_⟩
  · rcases back j e he with ⟨rfl, rfl⟩ | ⟨z, he'⟩
    · exact ⟨_, hp, p, ws, rfl, h2, upd_same, q⟩
    · obtain ⟨u, h5, h6⟩ := r.at_ j e he'
      refine ⟨u, h5, En.mono h6 (Same.refl _) fun a ha => upd_ne fun z2 => ?_⟩
      have := r.dis j i e _ z he' h a ha
      rw [h2, z2] at this
      simp at this
  · obtain ⟨e', he'⟩ := some_ j e he
    exact r.fr j e' he' a ha
  · obtain ⟨e1, he1⟩ := some_ j e h5
    obtain ⟨e2, he2⟩ := some_ k e' h6
    exact r.dis j k e1 e2 hjk he1 he2 a ha
/-- xs.append(e), xs a list of one's own in the slot i -/
def tAppO (K : PySem.W.Frag) (i : Nat) (te : TE) : TS := tDrop (tBM K "list" rAppend (tVar i) (tCons te tNil))
def dAppO (i : Nat) (de : DE) : DS := fun env E => (∃ xs, env[i]? = some (some (.l xs))) ∧ de env fun y env1 => keepE env env1 ∧ ∃ xs, env1[i]? = some (some (.l xs)) ∧ xs.length < 100000 ∧ E.nx (env1.set i (some (.l (xs ++ [y]))))
theorem Kp.setL {σ : L2.St} {env : Env} {i : Nat} {xs : List D} (e : Option En) (h : env[i]? = some (some (.l xs))) : Kp σ env σ (env.set i e) := fun j w hj => by
  have : i ≠ j := fun z => by rw [← z, h] at hj; cases hj
  exact ⟨rfl, w, by rw [List.getElem?_set_ne this]; exact hj⟩
theorem EnvR.sameOwn {Hs Fr H Hs' Fr' H' : Hp} {σ : L2.St} {env env' : Env} (r : EnvR Hs Fr H σ env) (r' : EnvR Hs' Fr' H' σ env') {i : Nat} {xs ys : List D} (h : env[i]? = some (some (.l xs))) (h' : env'[i]? = some (some (.l ys))) {p : Addr} (hp : σ[i]? = some (some (.ref p))) : ∃ ws, H' p = some (.lst ws) ∧ RpA Hs' ws ys := by
  obtain ⟨q, ws, h1, h2, h3, _⟩ := r'.own h'
  rw [hp] at h1
  cases h1
  exact ⟨ws, h2, h3⟩
theorem same_updF {Fr H : Hp} {p : Addr} {o : HO} (fh : Same Fr H) (n : Fr p = none) : Same Fr (upd H p o) := fun a u h => by
  rw [upd_ne (ne_of_none h n)]; exact fh a u h
instance {K : PySem.W.Frag} {i : Nat} {te : TE} {de : DE} [he : AbsE te de] : AbsS (tAppO K i te) (dAppO i de) := ⟨fun σ Hs Fr H env D E er sf fh h kn _ _ _ => by
  obtain ⟨⟨xs0, h0⟩, h⟩ := h
  obtain ⟨p, vs, hp, hl, ra, hf⟩ := er.own h0
  refine ⟨.ref p, hp, Or.inl ⟨rfl, vs, SqL.of hl⟩, ?_⟩
  refine he.run σ Hs Fr H env _ _ er sf fh h fun y d env1 Hs1 Fr1 H1 r1 s1 sf1 fh1 ry h1 => ?_
  obtain ⟨ke, xs, h2, hlt, h1⟩ := h1
  obtain ⟨p', ws, hp', hl', ra', hf'⟩ := r1.own h2
  rw [hp] at hp'
  cases hp'
  refine ⟨p, ws, y, rfl, rfl, hl', by rw [ra'.1]; exact szlt hlt, ?_⟩
  obtain ⟨fpf, rf⟩ := r1
  exact kn σ _ Hs1 Fr1 _ ⟨fpf, rf.updL h2 hp (ra'.snoc ry)⟩ s1 sf1 (same_updF fh1 hf') ((Kp.ofE ke).trans (.setL _ h2)) h1⟩
/-- a list of one's own is taken as data from here on -/
def tFrz (i : Nat) (t : TS) : TS := t
def dFrz (i : Nat) (a : DS) : DS := fun env E => ∃ xs, env[i]? = some (some (.l xs)) ∧ a (env.set i (some (.d (.lst xs)))) E
theorem EnvR.frzL {Hs Fr H : Hp} {σ : L2.St} {env : Env} (r : EnvR Hs Fr H σ env) (sf : Same Hs Fr) (fh : Same Fr H) {i : Nat} {xs : List D} (h : env[i]? = some (some (.l xs))) :
    ∃ Hs' Fr', EnvR Hs' Fr' H σ (env.set i (some (.d (.lst xs)))) ∧ Stp Hs Fr Hs' Fr' ∧ Same Hs' Fr' ∧ Same Fr' H := by
  obtain ⟨fp, r⟩ := r
  obtain ⟨v, h1, q, vs, rfl, h2, h3, h4⟩ := r.at_ i _ h
  have hf : Fr q = none := r.fr i _ h q (by rw [h2]; simp)
  have hs : Hs q = none := none_of sf hf
  have hl : i < env.length := (List.getElem?_eq_some_iff.mp h).1
  have ss : Same Hs (upd Hs q (.lst vs)) := same_upd (Same.refl _) hs
  have back : ∀ j e, (env.set i (some (.d (.lst xs))))[j]? = some (some e) → (j = i ∧ e = .d (.lst xs)) ∨ (j ≠ i ∧ env[j]? = some (some e)) := fun j e he => by
    by_cases z : j = i
    · subst z
      rw [List.getElem?_set_self hl] at he
      cases he
      exact .inl ⟨rfl, rfl⟩
    · rw [List.getElem?_set_ne (Ne.symm z)] at he
      exact .inr ⟨z, he⟩
  refine ⟨upd Hs q (.lst vs), upd Fr q (.lst vs), ⟨fun j => if j = i then [] else fp j, ?_⟩, ⟨ss, same_upd (Same.refl _) hf, fun a h5 h6 => ?_⟩, same_upd2 sf, fun a o ha => ?_⟩
  · refine ⟨by simp [r.len], fun j e he => ?_, fun j e he a ha => ?_, fun j k e e' hjk h5 h6 a ha => ?_⟩
    · rcases back j e he with ⟨rfl, rfl⟩ | ⟨z, he'⟩
      · exact ⟨_, h1, .lstA upd_same (h4.mono ss), by simp⟩
      · obtain ⟨u, h5, h6⟩ := r.at_ j e he'
        exact ⟨u, h5, by simp only [if_neg z]; exact En.mono h6 ss fun _ _ => rfl⟩
    · rcases back j e he with ⟨rfl, rfl⟩ | ⟨z, he'⟩
      · simp at ha
      · rw [if_neg z] at ha
        rw [upd_ne (fun z2 => by
          have := r.dis j i e _ z he' h a ha
          rw [h2, z2] at this
          simp at this)]
        exact r.fr j e he' a ha
    · rcases back j e h5 with ⟨rfl, rfl⟩ | ⟨z, he'⟩
      · simp at ha
      · rw [if_neg z] at ha
        rcases back k e' h6 with ⟨rfl, rfl⟩ | ⟨z2, he2⟩
        · simp
        · rw [if_neg z2]
          exact r.dis j k e e' hjk he' he2 a ha
  · rw [upd_ne (fun z => h5 (by rw [z]; exact hf))]; exact h6
  · by_cases z : a = q
    · rw [z, upd_same] at ha
      rw [z, h3]; exact ha
    · rw [upd_ne z] at ha
      exact fh a o ha
instance {i : Nat} {t : TS} {a : DS} [ht : AbsS t a] : AbsS (tFrz i t) (dFrz i a) := ⟨fun σ Hs Fr H env D E er sf fh h kn kr kb kc => by
  obtain ⟨xs, h0, h⟩ := h
  obtain ⟨Hs1, Fr1, r1, s1, sf1, fh1⟩ := er.frzL sf fh h0
  have p1 : Kp σ env σ (env.set i (some (.d (.lst xs)))) := .setL _ h0
  refine ht.run σ Hs1 Fr1 H _ D E r1 sf1 fh1 h ?_ ?_ ?_ ?_
  · exact fun σ2 env2 Hs2 Fr2 H2 r2 s2 sf2 fh2 p2 h2 => kn σ2 env2 Hs2 Fr2 H2 r2 (s1.trans s2) sf2 fh2 (p1.trans p2) h2
  · exact fun v d σ2 env2 Hs2 Fr2 H2 r2 s2 sf2 fh2 p2 rv h2 => kr v d σ2 env2 Hs2 Fr2 H2 r2 (s1.trans s2) sf2 fh2 (p1.trans p2) rv h2
  · exact fun σ2 env2 Hs2 Fr2 H2 r2 s2 sf2 fh2 p2 h2 => kb σ2 env2 Hs2 Fr2 H2 r2 (s1.trans s2) sf2 fh2 (p1.trans p2) h2
  · exact fun σ2 env2 Hs2 Fr2 H2 r2 s2 sf2 fh2 p2 h2 => kc σ2 env2 Hs2 Fr2 H2 r2 (s1.trans s2) sf2 fh2 (p1.trans p2) h2⟩
end Lf
set_option Elab.async false
set_option linter.all false
set_option maxRecDepth 100000
set_option maxHeartbeats 4000000
namespace Lf
open PySem PySem.Spec PyProof.Rows L2 RZ

theorem keepE_refl {env : Env} : keepE env env := fun i w h => ⟨w, h⟩
theorem keepE_set {env : Env} {i : Nat} {w : Ow} : keepE env (env.set i (some (.o w))) := fun j u h => by
  by_cases q : i = j
  · subst q
    exact ⟨w, List.getElem?_set_self (List.getElem?_eq_some_iff.mp h).1⟩
  · exact ⟨u, by rw [List.getElem?_set_ne q]; exact h⟩

/-! ### promises over data -/
abbrev PW := List D → (D → Prop) → Prop
abbrev OW := Ow → List D → (D → Ow → Prop) → Prop
def PSp (n : Nat) (pw : PW) : Sp := fun vs H Q _ => vs.length = n ∧ ∃ Hs Fr ds C, Same Hs Fr ∧ Same Fr H ∧ RpA Hs vs ds ∧ pw ds C ∧
  ∀ v d Hs' Fr' H', Stp Hs Fr Hs' Fr' → Same Hs' Fr' → Same Fr' H' → Rp Hs' v d → C d → Q v H'
def OSp (n : Nat) (ow : OW) : Sp := fun vs H Q _ => vs.length = n ∧ ∃ Hs Fr w v0 vs' ds fp C, vs = v0 :: vs' ∧ Same Hs Fr ∧ Same Fr H ∧ w.At Hs H v0 fp ∧ (∀ a ∈ fp, Fr a = none) ∧ RpA Hs vs' ds ∧ ow w ds C ∧
  ∀ v d w' fp' Hs' Fr' H', w'.At Hs' H' v0 fp' → (∀ a ∈ fp', Fr' a = none) → Stp Hs Fr Hs' Fr' → Same Hs' Fr' → Same Fr' H' → Rp Hs' v d → C d w' → Q v H'
theorem PSp.len {n : Nat} {pw : PW} {vs : List V} {H : Hp} {Q : VK} {E : XK} (h : PSp n pw vs H Q E) : vs.length = n := h.1
theorem OSp.len {n : Nat} {ow : OW} {vs : List V} {H : Hp} {Q : VK} {E : XK} (h : OSp n ow vs H Q E) : vs.length = n := h.1
/-- the environment at a def's start -/
def env0 (k : Nat) (ds : List D) : Env := ds.map (fun d => some (.d d)) ++ List.replicate k none
theorem start_eq (N : List Str) (vs : List V) : start N vs = vs.map some ++ List.replicate (N.length - vs.length) none := rfl
theorem envR_start {Hs Fr H : Hp} {vs : List V} {ds : List D} (k : Nat) (r : RpA Hs vs ds) : EnvF Hs Fr H (vs.map some ++ List.replicate k none) (env0 k ds) (fun _ => []) := by
  refine ⟨by simp [env0, r.1], fun i e he => ?_, fun i e _ a ha => by simp at ha, fun i j e e' _ _ _ a ha => by simp at ha⟩
  unfold env0 at he
  by_cases hi : i < ds.length
  · rw [List.getElem?_append_left (by simpa using hi), List.getElem?_map, List.getElem?_eq_getElem hi] at he
    cases he
    have h1 : ds[i]? = some ds[i] := List.getElem?_eq_getElem hi
    obtain ⟨v, hv, rv⟩ := r.atD h1
    refine ⟨v, ?_, rv, rfl⟩
    have hi2 : i < vs.length := by rw [r.1]; exact hi
    rw [List.getElem?_append_left (by simpa using hi2), List.getElem?_map, hv]
    rfl
  · rw [List.getElem?_append_right (by simpa using hi), List.getElem?_replicate] at he
    split at he <;> cases he
theorem ps_body {n : Nat} {pw : PW} {N : List Str} {t : TS} {ds : DS} {vs : List V} {H : Hp} {Q : VK} {E : XK} (h : PSp n pw vs H Q E) (ha : AbsS t ds)
    (body : ∀ as C, as.length = n → pw as C → ds (env0 (N.length - n) as) { nx := fun _ => C .non, rt := fun d _ => C d }) : t { nx := fun _ H' => Q .non H', rt := Q } (start N vs) H := by
  obtain ⟨hl, Hs, Fr, as, C, sf, fh, ra, hw, hC⟩ := h
  have e : as.length = n := by rw [← ra.1]; exact hl
  have er : EnvF Hs Fr H (start N vs) (env0 (N.length - n) as) (fun _ => []) := by
    rw [start_eq, hl]
    exact envR_start _ ra
  refine ha.run (start N vs) Hs Fr H _ _ _ ⟨_, er⟩ sf fh (body as C e hw) ?_ ?_ ?_ ?_
  · exact fun σ' env' Hs' Fr' H' r' s' sf' fh' k' c => hC _ _ Hs' Fr' H' s' sf' fh' .non c
  · exact fun v d σ' env' Hs' Fr' H' r' s' sf' fh' k' rv c => hC v d Hs' Fr' H' s' sf' fh' rv c
  · exact fun σ' env' Hs' Fr' H' r' s' sf' fh' k' c => c.elim
  · exact fun σ' env' Hs' Fr' H' r' s' sf' fh' k' c => c.elim
theorem os_body {n : Nat} {ow : OW} {N : List Str} {t : TS} {ds : DS} {vs : List V} {H : Hp} {Q : VK} {E : XK} (h : OSp n ow vs H Q E) (ha : AbsS t ds)
    (body : ∀ w as C, as.length + 1 = n → ow w as C → ds (some (.o w) :: env0 (N.length - n) as) { nx := fun env' => ∃ w', env'[0]? = some (some (.o w')) ∧ C .non w', rt := fun d env' => ∃ w', env'[0]? = some (some (.o w')) ∧ C d w' }) :
    t { nx := fun _ H' => Q .non H', rt := Q } (start N vs) H := by
  obtain ⟨hl, Hs, Fr, w, v0, vs', as, fp, C, rfl, sf, fh, hat, hfr, ra, hw, hC⟩ := h
  have e : as.length + 1 = n := by rw [← ra.1]; simpa using hl
  have hes : start N (v0 :: vs') = some v0 :: (vs'.map some ++ List.replicate (N.length - n) none) := by
    rw [start_eq, hl]; rfl
  have er : EnvF Hs Fr H (some v0 :: (vs'.map some ++ List.replicate (N.length - n) none)) (some (.o w) :: env0 (N.length - n) as) (fun i => if i = 0 then fp else []) := by
    have r1 := envR_start (Hs := Hs) (Fr := Fr) (H := H) (N.length - n) ra
    refine ⟨by simpa using r1.len, fun i e he => ?_, fun i e he a ha => ?_, fun i j e e' hij h1 h2 a ha => ?_⟩
    · cases i with
      | zero =>
        cases he
        exact ⟨v0, rfl, hat⟩
      | succ i =>
        obtain ⟨v, h1, h2⟩ := r1.at_ i e (by simpa using he)
        exact ⟨v, by simpa using h1, by simpa using h2⟩
    · cases i with
      | zero => exact hfr a (by simpa using ha)
      | succ i => simp at ha
    · cases i with
      | zero =>
        cases j with
        | zero => exact absurd rfl hij
        | succ j => simp
      | succ i => simp at ha
  rw [hes]
  have fin : ∀ {σ' : L2.St} {env' : Env} {Hs' Fr' H' : Hp}, EnvR Hs' Fr' H' σ' env' → Kp (some v0 :: (vs'.map some ++ List.replicate (N.length - n) none)) (some (.o w) :: env0 (N.length - n) as) σ' env' → ∀ w', env'[0]? = some (some (.o w')) → ∃ fp', w'.At Hs' H' v0 fp' ∧ ∀ a ∈ fp', Fr' a = none := fun {σ' env' Hs' Fr' H'} r' k' w' hw' => by
    obtain ⟨fpf, rf⟩ := r'
    obtain ⟨v, h1, h2⟩ := rf.at_ 0 _ hw'
    have h3 := (k' 0 w rfl).1
    rw [h1] at h3
    cases h3
    exact ⟨fpf 0, h2, rf.fr 0 _ hw'⟩
  refine ha.run _ Hs Fr H _ _ _ ⟨_, er⟩ sf fh (body w as C e hw) ?_ ?_ ?_ ?_
  · rintro σ' env' Hs' Fr' H' r' s' sf' fh' k' ⟨w', hw', c⟩
    obtain ⟨fp', h1, h2⟩ := fin r' k' w' hw'
    exact hC _ _ w' fp' Hs' Fr' H' h1 h2 s' sf' fh' .non c
  · rintro v d σ' env' Hs' Fr' H' r' s' sf' fh' k' rv ⟨w', hw', c⟩
    obtain ⟨fp', h1, h2⟩ := fin r' k' w' hw'
    exact hC v d w' fp' Hs' Fr' H' h1 h2 s' sf' fh' rv c
  · exact fun σ' env' Hs' Fr' H' r' s' sf' fh' k' c => c.elim
  · exact fun σ' env' Hs' Fr' H' r' s' sf' fh' k' c => c.elim

/-! ### calls -/
open Classical in
/-- what is kept over a call: all that is kept, and the parts of one's own -/
noncomputable def frC (Fr H : Hp) (P : Addr → Prop) : Hp := fun a => match Fr a with
  | some o => some o
  | none => if P a then H a else none
open Classical in
noncomputable def frD (Fr : Hp) (P : Addr → Prop) : Hp := fun a => if P a then none else Fr a
theorem frC_keep {Fr H : Hp} {P : Addr → Prop} : Same Fr (frC Fr H P) := fun a o h => by unfold frC; rw [h]
theorem frC_heap {Fr H : Hp} {P : Addr → Prop} (fh : Same Fr H) : Same (frC Fr H P) H := fun a o h => by
  unfold frC at h
  cases q : Fr a with
  | some u => rw [q] at h; cases h; exact fh a _ q
  | none =>
    rw [q] at h
    by_cases z : P a
    · simp only [z, if_true] at h; exact h
    · simp only [z, if_false] at h; cases h
theorem frC_in {Fr H : Hp} {P : Addr → Prop} {a : Addr} (hp : P a) (hf : Fr a = none) : frC Fr H P a = H a := by
  unfold frC; rw [hf]; simp only [hp, if_true]
structure After (Hs Fr H : Hp) (P : Addr → Prop) (Hs' Fr' H' : Hp) : Prop where
  st : Stp Hs Fr Hs' (frD Fr' P)
  sf : Same Hs' (frD Fr' P)
  fh : Same (frD Fr' P) H'
  at_ : ∀ a, P a → H' a = H a
  out : ∀ a, P a → Fr' a ≠ none
theorem after {Hs Fr H Hs' Fr' H' : Hp} {P : Addr → Prop} (sf : Same Hs Fr) (hP : ∀ a, P a → Fr a = none ∧ H a ≠ none) (s : Stp Hs (frC Fr H P) Hs' Fr') (sf' : Same Hs' Fr') (fh' : Same Fr' H') : After Hs Fr H P Hs' Fr' H' := by
  have known : ∀ a, P a → ∃ o, H a = some o ∧ frC Fr H P a = some o := fun a ha => by
    obtain ⟨h1, h2⟩ := hP a ha
    cases q : H a with
    | none => exact absurd q h2
    | some o => exact ⟨o, rfl, by rw [frC_in ha h1, q]⟩
  have dkeep : ∀ a, ¬ P a → frD Fr' P a = Fr' a := fun a ha => by unfold frD; simp only [ha, if_false]
  have hsn : ∀ a, P a → Hs' a = none := fun a ha => by
    obtain ⟨o, h1, h2⟩ := known a ha
    exact s.sep a (by rw [h2]; exact fun z => by cases z) (none_of sf (hP a ha).1)
  refine ⟨⟨s.s, fun a o h => ?_, fun a h1 h2 => ?_⟩, fun a o h => ?_, fun a o h => ?_, fun a ha => ?_, fun a ha => ?_⟩
  · have : ¬ P a := fun z => by rw [(hP a z).1] at h; cases h
    rw [dkeep a this]
    exact s.f a o (frC_keep a o h)
  · exact s.sep a (some_ne frC_keep h1) h2
  · have : ¬ P a := fun z => by rw [hsn a z] at h; cases h
    rw [dkeep a this]
    exact sf' a o h
  · by_cases z : P a
    · unfold frD at h; simp only [z, if_true] at h; cases h
    · rw [dkeep a z] at h; exact fh' a o h
  · obtain ⟨o, h1, h2⟩ := known a ha
    rw [h1]
    exact fh' a o (s.f a o h2)
  · obtain ⟨o, h1, h2⟩ := known a ha
    rw [s.f a o h2]; exact fun z => by cases z
def Owned (env : Env) (fp : Nat → List Addr) (no : Nat → Prop) (a : Addr) : Prop := ∃ i e, ¬ no i ∧ env[i]? = some (some e) ∧ a ∈ fp i
theorem EnvF.ownedP {Hs Fr H : Hp} {σ : L2.St} {env : Env} {fp : Nat → List Addr} (r : EnvF Hs Fr H σ env fp) (no : Nat → Prop) : ∀ a, Owned env fp no a → Fr a = none ∧ H a ≠ none := fun a ⟨i, e, _, he, ha⟩ => by
  obtain ⟨v, h1, h2⟩ := r.at_ i e he
  exact ⟨r.fr i e he a ha, En.known h2 a ha⟩
def dCallP (n : Nat) (pw : PW) (da : DA) : DE := fun env C => da env fun ds env1 => ds.length = n ∧ pw ds fun d => C d env1
instance {n : Nat} {pw : PW} {E : XK} {t : TA} {da : DA} [ha : AbsA t da] : AbsE (tCall (PSp n pw) [] E t) (dCallP n pw da) := ⟨fun σ Hs Fr H env Q C er sf fh h k => by
  refine ha.run σ Hs Fr H env _ _ er sf fh h fun vs ds env1 Hs1 Fr1 H1 r1 s1 sf1 fh1 ra hc => ?_
  obtain ⟨hn, hp⟩ := hc
  obtain ⟨fp, rf⟩ := r1
  have hP := rf.ownedP (fun _ => False)
  refine ⟨by rw [List.append_nil, ra.1]; exact hn, Hs1, frC Fr1 H1 (Owned env1 fp fun _ => False), ds, _, sf1.trans frC_keep, frC_heap fh1, by rw [List.append_nil]; exact ra, hp, fun v d Hs' Fr' H' s' sf' fh' rv c => ?_⟩
  have A := after sf1 hP s' sf' fh'
  refine k v d env1 Hs' _ H' ⟨fp, rf.len, fun i e he => ?_, fun i e he a ha => ?_, rf.dis⟩ (s1.trans A.st) A.sf A.fh rv c
  · obtain ⟨u, h1, h2⟩ := rf.at_ i e he
    exact ⟨u, h1, En.mono h2 s'.s fun a ha => A.at_ a ⟨i, e, id, he, ha⟩⟩
  · have z : Owned env1 fp (fun _ => False) a := ⟨i, e, id, he, ha⟩
    show frD Fr' _ a = none
    unfold frD
    simp only [z, if_true]⟩
/-- a call with an object of one's own, the name in the slot i, as its first argument -/
def tCallO (sp : Sp) (i : Nat) (E : XK) (t : TA) : TE := tCall sp [] E (tCons (tVar i) t)
def dCallO (n : Nat) (ow : OW) (i : Nat) (da : DA) : DE := fun env C => (∃ w, env[i]? = some (some (.o w))) ∧ da env fun ds env1 => ds.length + 1 = n ∧ keepE env env1 ∧ ∃ w, env1[i]? = some (some (.o w)) ∧ ow w ds fun d w' => C d (env1.set i (some (.o w')))
theorem EnvF.setO {Hs Fr H : Hp} {σ : L2.St} {env : Env} {fp : Nat → List Addr} {i : Nat} {w : Ow} {fp' : List Addr} {v0 : V} (hl : σ.length = env.length) (hi : i < env.length) (h0 : σ[i]? = some (some v0)) (hw : w.At Hs H v0 fp') (hf : ∀ a ∈ fp', Fr a = none)
    (at_ : ∀ (j : Nat) e, j ≠ i → env[j]? = some (some e) → ∃ v, σ[j]? = some (some v) ∧ e.At Hs H v (fp j)) (fr : ∀ (j : Nat) e, j ≠ i → env[j]? = some (some e) → ∀ a ∈ fp j, Fr a = none)
    (dis : ∀ (j k : Nat) e e', j ≠ i → k ≠ i → j ≠ k → env[j]? = some (some e) → env[k]? = some (some e') → ∀ a ∈ fp j, a ∉ fp k) (dis' : ∀ (j : Nat) e, j ≠ i → env[j]? = some (some e) → ∀ a ∈ fp j, a ∉ fp') :
    EnvF Hs Fr H σ (env.set i (some (.o w))) (fun j => if j = i then fp' else fp j) := by
  have back : ∀ j e, (env.set i (some (.o w)))[j]? = some (some e) → (j = i ∧ e = .o w) ∨ (j ≠ i ∧ env[j]? = some (some e)) := fun j e he => by
    by_cases z : j = i
    · subst z
      rw [List.getElem?_set_self hi] at he
      cases he
      exact .inl ⟨rfl, rfl⟩
    · rw [List.getElem?_set_ne (Ne.symm z)] at he
      exact .inr ⟨z, he⟩
  refine ⟨by simpa using hl, fun j e he => ?_, fun j e he a ha => ?_, fun j k e e' hjk h5 h6 a ha => ?_⟩
  · rcases back j e he with ⟨rfl, rfl⟩ | ⟨z, he'⟩
    · exact ⟨v0, h0, by show w.At Hs H v0 (if j = j then fp' else fp j); rw [if_pos rfl]; exact hw⟩
    · obtain ⟨u, h5, h6⟩ := at_ j e z he'
      exact ⟨u, h5, by simp only [if_neg z]; exact h6⟩
  · rcases back j e he with ⟨rfl, rfl⟩ | ⟨z, he'⟩
    · rw [if_pos rfl] at ha; exact hf a ha
    · rw [if_neg z] at ha; exact fr j e z he' a ha
  · rcases back j e h5 with ⟨rfl, rfl⟩ | ⟨z, he'⟩
    · rcases back k e' h6 with ⟨rfl, rfl⟩ | ⟨z2, he2⟩
      · exact absurd rfl hjk
      · rw [if_pos rfl] at ha
        rw [if_neg z2]
        exact fun q => dis' k e' z2 he2 a q ha
    · rw [if_neg z] at ha
      rcases back k e' h6 with ⟨rfl, rfl⟩ | ⟨z2, he2⟩
      · rw [if_pos rfl]; exact dis' j e z he' a ha
      · rw [if_neg z2]; exact dis j k e e' z z2 hjk he' he2 a ha
instance {n : Nat} {ow : OW} {i : Nat} {E : XK} {t : TA} {da : DA} [ha : AbsA t da] : AbsE (tCallO (OSp n ow) i E t) (dCallO n ow i da) := ⟨fun σ Hs Fr H env Q C er sf fh h k => by
  obtain ⟨⟨w0, hw0⟩, h⟩ := h
  have hv0 : ∃ v0, σ[i]? = some (some v0) := by
    obtain ⟨fp, r⟩ := er
    obtain ⟨v, h1, _⟩ := r.at_ i _ hw0
    exact ⟨v, h1⟩
  obtain ⟨v0, hv0⟩ := hv0
  refine ⟨v0, hv0, ?_⟩
  refine ha.run σ Hs Fr H env _ _ er sf fh h fun vs ds env1 Hs1 Fr1 H1 r1 s1 sf1 fh1 ra hc => ?_
  obtain ⟨hn, ke, w, hw, ho⟩ := hc
  obtain ⟨fp, rf⟩ := r1
  obtain ⟨u0, hu0, hat⟩ := rf.at_ i _ hw
  rw [hv0] at hu0
  cases hu0
  have hP := rf.ownedP (fun j => j = i)
  have hfr : ∀ a ∈ fp i, frC Fr1 H1 (Owned env1 fp fun j => j = i) a = none := fun a ha => by
    have h1 := rf.fr i _ hw a ha
    have h2 : ¬ Owned env1 fp (fun j => j = i) a := fun ⟨j, e, hj, he, hm⟩ => rf.dis j i e _ hj he hw a hm ha
    unfold frC
    rw [h1]
    simp only [h2, if_false]
  refine ⟨by simp [ra.1]; exact hn, Hs1, frC Fr1 H1 (Owned env1 fp fun j => j = i), w, v0, vs, ds, fp i, _, by simp, sf1.trans frC_keep, frC_heap fh1, hat, hfr, ra, ho, fun v d w' fp' Hs' Fr' H' hat' hfr' s' sf' fh' rv c => ?_⟩
  have A := after sf1 hP s' sf' fh'
  have hi : i < env1.length := (List.getElem?_eq_some_iff.mp hw).1
  refine k v d _ Hs' _ H' ⟨_, EnvF.setO (fp := fp) rf.len hi hv0 hat' (fun a ha => ?_) (fun j e hj he => ?_) (fun j e hj he a ha => ?_) (fun j q e e' _ _ hjq => rf.dis j q e e' hjq) (fun j e hj he a ha hm => ?_)⟩ (s1.trans A.st) A.sf A.fh rv c
  · show frD Fr' _ a = none
    unfold frD
    split
    · rfl
    · exact hfr' a ha
  · obtain ⟨u, h1, h2⟩ := rf.at_ j e he
    exact ⟨u, h1, En.mono h2 s'.s fun a ha => A.at_ a ⟨j, e, hj, he, ha⟩⟩
  · have z : Owned env1 fp (fun j => j = i) a := ⟨j, e, hj, he, ha⟩
    show frD Fr' _ a = none
    unfold frD
    simp only [z, if_true]
  · exact A.out a ⟨j, e, hj, he, ha⟩ (hfr' a hm)⟩

/-! ### isinstance -/
abbrev tIsi (K : PySem.W.Frag) (T : String) (ta : TE) : TE := tCB (rIsi K) (tCons ta (tCons (tC (.ty T)) tNil))
def dIsi (T : String) (da : DE) : DE := fun env C => da env fun x env1 => ∃ b, kitB x.ty T = some b ∧ C (.bl b) env1
instance {K : PySem.W.Frag} {T : String} {ta : TE} {da : DE} [ha : AbsE ta da] : AbsE (tIsi K T ta) (dIsi T da) := ⟨fun σ Hs Fr H env Q C er sf fh h k => by
  refine ha.run σ Hs Fr H env _ _ er sf fh h fun v d env1 Hs1 Fr1 H1 r1 s1 sf1 fh1 rv hc => ?_
  obtain ⟨b, hb, c⟩ := hc
  exact ⟨v, .ty T, _, _, b, rfl, .ty T, (rv.mono (sf1.trans fh1)).tyx, kit_ty hb, k _ _ env1 Hs1 Fr1 H1 r1 s1 sf1 fh1 (.bl b) c⟩⟩
abbrev tIsi2 (K : PySem.W.Frag) (T U : String) (ta : TE) : TE := tCB (rIsiT K) (tCons ta (tCons (tTup (tCons (tC (.ty T)) (tCons (tC (.ty U)) tNil))) tNil))
def dIsi2 (T U : String) (da : DE) : DE := fun env C => da env fun x env1 => ∃ b c, kitB x.ty T = some b ∧ kitB x.ty U = some c ∧ C (.bl (b || c)) env1
instance {K : PySem.W.Frag} {T U : String} {ta : TE} {da : DE} [ha : AbsE ta da] : AbsE (tIsi2 K T U ta) (dIsi2 T U da) := ⟨fun σ Hs Fr H env Q C er sf fh h k => by
  refine ha.run σ Hs Fr H env _ _ er sf fh h fun v d env1 Hs1 Fr1 H1 r1 s1 sf1 fh1 rv hc => ?_
  obtain ⟨b, b', hb, hb', c⟩ := hc
  refine ⟨by show 2 ≤ sizeLine; decide, fun p hp => ?_⟩
  have g := Gr.new sf1 fh1 hp (.tup [V.ty T, V.ty U])
  refine ⟨v, p, [.ty T, .ty U], _, [.type T, .type U], b || b', rfl, upd_same, .cons (.ty T) (.cons (.ty U) .nil), ((rv.mono (sf1.trans fh1)).mono g.h).tyx, kitAny_cons (kit_ty hb) (fun q => ?_) (fun q => by rw [q]; rfl), k _ _ env1 _ _ _ (r1.gr g) (s1.trans g.st) g.sf g.fh (.bl _) c⟩
  refine kitAny_cons (kit_ty hb') (fun q2 => ?_) (fun q2 => by rw [q2, Bool.or_true])
  rw [q, q2]
  exact kitAny_nil⟩
end Lf
set_option Elab.async false
set_option linter.all false
set_option maxRecDepth 100000
set_option maxHeartbeats 4000000
namespace L2
open PySem PySem.Spec PyProof.Rows
theorem tuple_mul1 (l : Addr) (items : Array Value) (n : Nat) (dd : Option Addr) (sl : Array (Option Value)) (u : Tok) :
    Meets (Builtin.«tuple.__mul__» ⟨[.ref l, .int 1 u], []⟩) (fun _ R s => s.heap.get? l = some { cls := .type "tuple", dict := dd, data := .seq items n, slots := sl } ∧
      R (.ok (.ret (Value.ref l))) s) :=
  .of_wp fun P0 w0 A0 R0 st h0 => by
    obtain ⟨hp, gl, dd0, tk, os⟩ := st ; obtain ⟨hl, h⟩ := h0
    have f1 := AutoSeq1.idx_int
    wp_walk using wpAny_loadPart' hl ; repeat (first
      | (refine wpAny_ite_false (by decide) ?_; wp_walk using wpAny_loadPart' hl)
      | (refine wpAny_ite_true (by simp) ?_; wp_walk using wpAny_loadPart' hl))
    all_goals first
      | exact ⟨_, rfl, h⟩
      | exact h


/-- tuple * int, from 1 on -/
def rRepU (K : PySem.W.Frag) : R2 := fun x y H Q => ∃ l k xs, x = .ref l ∧ y = .int k ∧ SqT K H l xs ∧ xs ≠ [] ∧ 1 ≤ k ∧ k ≤ 1000 ∧ xs.length ≤ 1000 ∧ (k = 1 → Q (.ref l) H) ∧ (2 ≤ k → ∀ p, H p = none → Q (.ref p) (upd H p (.tup (List.replicate k.toNat xs).flatten)))
section
variable {X : Cx}
theorem op_repU : OpR X (binaryOp .Mult) (rRepU X.K) := by
  intro pins s σ H x y v u Q I rx ry h ; obtain ⟨l, k, xs, rfl, rfl, hT, hne, h1, h2, hz, q1, q⟩ := h
  by_cases hk : k = 1
  · subst hk
    cases rx
    obtain ⟨t, rfl⟩ := ry
    obtain ⟨its, r, ⟨⟨cls, dd, data, sl⟩, ho, hc, n, hd⟩, hs⟩ := I.tuple hT ; simp only at hc hd
    subst hc hd
    refine wpAny_binaryOp_repeat_ref (T := "tuple") (U := "int") (by decide) ⟨_, ho, rfl⟩ (fun s' => typeIs_int s' 1 t) noFill_tuple_mul F.fills_int_mul F.slot_int_rmul repeat_tuple F.slot_int_index.lookup
      (call_meets F.slot_int_rmul (typeIs_int s 1 t) F.entry_int_rmul (F.args_int_rmul_2 _ _) (int_rmul_tuple 1 t l its.toArray n dd sl)
        ⟨ho, rfl, ⟨_, ho, rfl⟩, call_meets F.slot_tuple_mul ⟨_, ho, rfl⟩ F.entry_tuple_mul (F.args_tuple_mul_2 _ _) (tuple_mul1 l its.toArray n dd sl t) ⟨ho, ?_⟩⟩)
    exact ⟨.ref l, H, I, rfl, q1 rfl⟩
  · exact op_repT pins s σ H _ _ v u Q I rx ry ⟨l, k, xs, rfl, rfl, hT, hne, by omega, h2, hz, q (by omega)⟩
end
end L2
namespace Lf
open PySem PySem.Spec PyProof.Rows L2 RZ
/-! + , *, // of any kind -/
abbrev rAddI : R2 := rI0 fun i j => .int (i + j)
def rbAdd (K : PySem.W.Frag) : R2 := fun x y H Q => rAddI x y H Q ∨ (rCatA K x y H Q ∨ rCat x y H Q)
theorem ob_add {X : Cx} : OpR X (binaryOp .Add) (rbAdd X.K) := op_add.or (op_catA.or op_cat)
def dbAdd : DR2 := fun x y C => (∃ i j, x = .int i ∧ y = .int j ∧ C (.int (i + j))) ∨ (∃ xs ys, x = .tup xs ∧ y = .tup ys ∧ xs.length + ys.length ≤ 100000 ∧ C (.tup (xs ++ ys))) ∨ (∃ xs ys, x = .lst xs ∧ y = .lst ys ∧ xs.length + ys.length ≤ 100000 ∧ C (.lst (xs ++ ys)))
theorem RpA.append {H : Hp} : ∀ {vs ws : List V} {ds es : List D}, RpA H vs ds → RpA H ws es → RpA H (vs ++ ws) (ds ++ es)
  | [], ws, [], es, _, r => r
  | [], _, _ :: _, _, r, _ => by have := r.1; simp at this
  | _ :: _, _, [], _, r, _ => by have := r.1; simp at this
  | v :: vs, ws, d :: ds, es, r, r' => by
    have rx : Rp H v d := r.2 0 v d rfl rfl
    have rr : RpA H vs ds := ⟨by have := r.1; simpa using this, fun i v d a b => r.2 (i + 1) v d (by simpa using a) (by simpa using b)⟩
    exact .cons rx (RpA.append rr r')
theorem RpA.isNil {H : Hp} {vs : List V} {ds : List D} (r : RpA H vs ds) : vs = [] ↔ ds = [] := by
  have := r.1
  constructor
  · intro h; subst h; simpa using this.symm
  · intro h; subst h; simpa using this
instance {K : PySem.W.Frag} : AbsR (rbAdd K) dbAdd := ⟨fun Hs Fr H x y a b Q C sf fh px py h k => by
  rcases h with ⟨i, j, rfl, rfl, h⟩ | ⟨xs, ys, rfl, rfl, hz, h⟩ | ⟨xs, ys, rfl, rfl, hz, h⟩
  · exact .inl ⟨i, j, px.int_inv, py.int_inv, k _ _ Hs Fr H (Gr.refl sf fh) (.int _) h⟩
  · obtain ⟨p, vs, rfl, e, q⟩ := px.tup_inv
    obtain ⟨p', ws, rfl, e', q'⟩ := py.tup_inv
    refine .inr (.inl ⟨p, p', vs, ws, rfl, rfl, SqT.of ((sf.trans fh) _ _ e), SqT.of ((sf.trans fh) _ _ e'), by rw [q.1, q'.1]; exact szl hz, fun hn => ?_, fun _ hn => ?_, fun _ _ l hl => ?_⟩)
    · subst hn
      have := q.isNil.mp rfl
      subst this
      exact k _ _ Hs Fr H (Gr.refl sf fh) (.tupA e' q') h
    · subst hn
      have := q'.isNil.mp rfl
      subst this
      exact k _ _ Hs Fr H (Gr.refl sf fh) (.tupA e (by rw [List.append_nil]; exact q)) h
    · have g := Gr.new sf fh hl (.tup (vs ++ ws))
      exact k _ _ _ _ _ g (.tupA upd_same ((q.append q').mono g.st.s)) h
  · obtain ⟨p, vs, rfl, e, q⟩ := px.lst_inv
    obtain ⟨p', ws, rfl, e', q'⟩ := py.lst_inv
    refine .inr (.inr ⟨p, p', vs, ws, rfl, rfl, (sf.trans fh) _ _ e, (sf.trans fh) _ _ e', by rw [q.1, q'.1]; exact szl hz, fun l hl => ?_⟩)
    have g := Gr.new sf fh hl (.lst (vs ++ ws))
    exact k _ _ _ _ _ g (.lstA upd_same ((q.append q').mono g.st.s)) h⟩
abbrev rMulI : R2 := rI CMul fun i j => .int (i * j)
abbrev rMulW : R2 := rI CMulW fun i j => .int (i * j)
def rbMul (K : PySem.W.Frag) : R2 := fun x y H Q => rMulI x y H Q ∨ (rMulW x y H Q ∨ (rRepU K x y H Q ∨ rRep x y H Q))
theorem ob_mul {X : Cx} : OpR X (binaryOp .Mult) (rbMul X.K) := op_mul.or (op_mulW.or (op_repU.or op_rep))
def dbMul : DR2 := fun x y C => (∃ i j, x = .int i ∧ y = .int j ∧ (CMul i j ∨ CMulW i j) ∧ C (.int (i * j))) ∨ (∃ xs k, x = .tup xs ∧ y = .int k ∧ xs ≠ [] ∧ 1 ≤ k ∧ k ≤ 1000 ∧ xs.length ≤ 1000 ∧ C (.tup (List.replicate k.toNat xs).flatten)) ∨
  (∃ xs k, x = .lst xs ∧ y = .int k ∧ -1000 ≤ k ∧ k ≤ 1000 ∧ xs.length ≤ 100 ∧ C (.lst (List.replicate k.toNat xs).flatten))
theorem RpA.rep {H : Hp} {vs : List V} {ds : List D} (r : RpA H vs ds) : ∀ n, RpA H (List.replicate n vs).flatten (List.replicate n ds).flatten
  | 0 => .nil
  | n + 1 => by
    rw [List.replicate_succ, List.replicate_succ, List.flatten_cons, List.flatten_cons] ; exact r.append (RpA.rep r n)
theorem rep_one {α : Type} (xs : List α) : (List.replicate (1 : Int).toNat xs).flatten = xs := by
  show (List.replicate 1 xs).flatten = xs
  simp
instance {K : PySem.W.Frag} : AbsR (rbMul K) dbMul := ⟨fun Hs Fr H x y a b Q C sf fh px py h k => by
  rcases h with ⟨i, j, rfl, rfl, hc, h⟩ | ⟨xs, n, rfl, rfl, hne, h1, h2, hz, h⟩ | ⟨xs, n, rfl, rfl, h1, h2, hz, h⟩
  · rcases hc with hc | hc
    · exact .inl ⟨i, j, px.int_inv, py.int_inv, hc, k _ _ Hs Fr H (Gr.refl sf fh) (.int _) h⟩
    · exact .inr (.inl ⟨i, j, px.int_inv, py.int_inv, hc, k _ _ Hs Fr H (Gr.refl sf fh) (.int _) h⟩)
  · obtain ⟨p, vs, rfl, e, q⟩ := px.tup_inv
    refine .inr (.inr (.inl ⟨p, n, vs, rfl, py.int_inv, SqT.of ((sf.trans fh) _ _ e), fun z => hne (q.isNil.mp z), h1, h2, by rw [q.1]; exact hz, fun hn => ?_, fun _ l hl => ?_⟩))
    · subst hn
      rw [rep_one] at h
      exact k _ _ Hs Fr H (Gr.refl sf fh) (.tupA e q) h
    · have g := Gr.new sf fh hl (.tup (List.replicate n.toNat vs).flatten)
      exact k _ _ _ _ _ g (.tupA upd_same ((q.rep _).mono g.st.s)) h
  · obtain ⟨p, vs, rfl, e, q⟩ := px.lst_inv
    refine .inr (.inr (.inr ⟨p, n, vs, rfl, py.int_inv, (sf.trans fh) _ _ e, by omega, by omega, ?_, fun l hl => ?_⟩))
    · rw [q.1]
      have : xs.length * n.toNat ≤ 100 * 1000 := Nat.mul_le_mul hz (by omega)
      exact szl (by omega)
    · have g := Gr.new sf fh hl (.lst (List.replicate n.toNat vs).flatten)
      exact k _ _ _ _ _ g (.lstA upd_same ((q.rep _).mono g.st.s)) h⟩
abbrev rDivI : R2 := rI CDivN fun i j => .int (i.fdiv j)
abbrev rDivW : R2 := rI CDivW fun i j => .int (i / j)
def rbFdiv : R2 := fun x y H Q => rDivI x y H Q ∨ rDivW x y H Q
theorem ob_fdiv {X : Cx} : OpR X (binaryOp .FloorDiv) rbFdiv := op_fdivN.or op_fdivW
def dbFdiv : DR2 := fun x y C => ∃ i j, x = .int i ∧ y = .int j ∧ ((CDivN i j ∧ C (.int (i.fdiv j))) ∨ (CDivW i j ∧ C (.int (i / j))))
instance : AbsR rbFdiv dbFdiv := ⟨fun Hs Fr H x y a b Q C sf fh px py h k => by
  obtain ⟨i, j, rfl, rfl, ⟨hc, h⟩ | ⟨hc, h⟩⟩ := h
  · exact .inl ⟨i, j, px.int_inv, py.int_inv, hc, k _ _ Hs Fr H (Gr.refl sf fh) (.int _) h⟩
  · exact .inr ⟨i, j, px.int_inv, py.int_inv, hc, k _ _ Hs Fr H (Gr.refl sf fh) (.int _) h⟩⟩
/-! xs[i], slices of any kind -/
theorem ix_any {X : Cx} : IxR X (fun x y H Q => rIxL X.K x y H Q ∨ rIxT X.K x y H Q) := ix_list.or ix_tup
def rSlQ (K : PySem.W.Frag) : V → Option Int → Option Int → Hp → VK → Prop := fun x lo hi H Q => rSlL K x lo hi H Q ∨ rSlA K x lo hi H Q
theorem sb_any {X : Cx} : SlR X (rSlQ X.K) := sl_list.or sl_tupA
def cutD (xs : List D) (lo hi : Option Int) : List D := (xs.drop (HT.sIx xs.length 0 lo)).take (HT.sIx xs.length xs.length hi - HT.sIx xs.length 0 lo)
def dPt (d : Option DE) (env : Env) (C : Option Int → Env → Prop) : Prop := match d with
  | none => C none env
  | some de => de env fun x env1 => ∃ i, x = .int i ∧ C (some i) env1
class AbsO (to : TO) (d : outParam (Option DE)) : Prop where
  run : ∀ (σ : L2.St) (Hs Fr H : Hp) (env : Env) (Q : Option Int → Hp → Prop) (C : Option Int → Env → Prop), EnvR Hs Fr H σ env → Same Hs Fr → Same Fr H → dPt d env C →
    (∀ o env' Hs' Fr' H', EnvR Hs' Fr' H' σ env' → Stp Hs Fr Hs' Fr' → Same Hs' Fr' → Same Fr' H' → C o env' → Q o H') → to σ H Q
instance : AbsO tNoPart none := ⟨fun σ Hs Fr H env Q C er sf fh h k => k none env Hs Fr H er (Stp.refl _ _) sf fh h⟩
instance {te : TE} {de : DE} [he : AbsE te de] : AbsO (tPart te) (some de) := ⟨fun σ Hs Fr H env Q C er sf fh h k => by
  refine he.run σ Hs Fr H env _ _ er sf fh h fun v d env1 Hs1 Fr1 H1 r1 s1 sf1 fh1 rv hc => ?_
  obtain ⟨i, rfl, c⟩ := hc
  exact ⟨i, rv.int_inv, k _ env1 Hs1 Fr1 H1 r1 s1 sf1 fh1 c⟩⟩
def dSl (de : DE) (lo hi : Option DE) : DE := fun env C => de env fun x env1 => dPt lo env1 fun l env2 => dPt hi env2 fun h env3 => (∃ xs, x = .lst xs ∧ C (.lst (cutD xs l h)) env3) ∨ (∃ xs, x = .tup xs ∧ C (.tup (cutD xs l h)) env3)
theorem RpA.drop {H : Hp} {vs : List V} {ds : List D} (r : RpA H vs ds) (n : Nat) : RpA H (vs.drop n) (ds.drop n) := ⟨by simp [r.1], fun i v d a b => r.2 (n + i) v d (by simpa using a) (by simpa using b)⟩
theorem RpA.take {H : Hp} {vs : List V} {ds : List D} (r : RpA H vs ds) (n : Nat) : RpA H (vs.take n) (ds.take n) := ⟨by simp [r.1], fun i v d a b => by
  by_cases hi : i < n
  · rw [List.getElem?_take_of_lt hi] at a b
    exact r.2 i v d a b
  · have : (vs.take n)[i]? = none := List.getElem?_eq_none (by simp; omega)
    rw [this] at a; cases a⟩
theorem RpA.cut {H : Hp} {vs : List V} {ds : List D} (r : RpA H vs ds) (lo hi : Option Int) : RpA H (cutV vs lo hi) (cutD ds lo hi) := by
  unfold cutV cutD
  rw [r.1]
  exact (r.drop _).take _
theorem cutD_whole {xs : List D} {lo hi : Option Int} (h : HT.sIx xs.length 0 lo = 0 ∧ HT.sIx xs.length xs.length hi = xs.length) : cutD xs lo hi = xs := by
  unfold cutD
  rw [h.1, h.2]
  simp
instance {K : PySem.W.Frag} {te : TE} {tl th : TO} {de : DE} {dl dh : Option DE} [he : AbsE te de] [hl : AbsO tl dl] [hh : AbsO th dh] : AbsE (tSl (rSlQ K) te tl th) (dSl de dl dh) := ⟨fun σ Hs Fr H env Q C er sf fh h k => by
  refine he.run σ Hs Fr H env _ _ er sf fh h fun v d env1 Hs1 Fr1 H1 r1 s1 sf1 fh1 rv h1 => ?_
  refine hl.run σ Hs1 Fr1 H1 env1 _ _ r1 sf1 fh1 h1 fun lo env2 Hs2 Fr2 H2 r2 s2 sf2 fh2 h2 => ?_
  refine hh.run σ Hs2 Fr2 H2 env2 _ _ r2 sf2 fh2 h2 fun hi env3 Hs3 Fr3 H3 r3 s3 sf3 fh3 h3 => ?_
  have rv3 := rv.mono (s2.s.trans s3.s)
  rcases h3 with ⟨xs, rfl, c⟩ | ⟨xs, rfl, c⟩
  · obtain ⟨p, vs, rfl, e, q⟩ := rv3.lst_inv
    refine .inl ⟨p, vs, rfl, SqL.of ((sf3.trans fh3) _ _ e), fun l hl' => ?_⟩
    have g := Gr.new sf3 fh3 hl' (.lst (cutV vs lo hi))
    exact k _ _ env3 _ _ _ (r3.gr g) (((s1.trans s2).trans s3).trans g.st) g.sf g.fh (.lstA upd_same ((q.cut lo hi).mono g.st.s)) c
  · obtain ⟨p, vs, rfl, e, q⟩ := rv3.tup_inv
    refine .inr ⟨p, vs, rfl, SqT.of ((sf3.trans fh3) _ _ e), fun hw => ?_, fun hw l hl' => ?_⟩
    · rw [q.1] at hw
      rw [cutD_whole hw] at c
      exact k _ _ env3 Hs3 Fr3 H3 r3 ((s1.trans s2).trans s3) sf3 fh3 (.tupA e q) c
    · have g := Gr.new sf3 fh3 hl' (.tup (cutV vs lo hi))
      exact k _ _ env3 _ _ _ (r3.gr g) (((s1.trans s2).trans s3).trans g.st) g.sf g.fh (.tupA upd_same ((q.cut lo hi).mono g.st.s)) c⟩
/-! built-ins under short names -/
theorem cl_abs {X : Cx} : CallR X (.builtin "abs") rAbs := call_abs
theorem cl_int {X : Cx} : CallR X (.type "int") rInt1 := by
  intro pins s σ H xs us Q I r h
  refine call_int1 pins s σ H xs us Q I r ?_
  rcases h with ⟨i, e, q⟩ | ⟨b, e, q⟩
  · exact .inl ⟨i, e, q⟩
  · refine .inr ⟨b, e, ?_⟩
    cases b <;> exact q
end Lf
set_option Elab.async false
set_option linter.all false
set_option maxRecDepth 100000
set_option maxHeartbeats 4000000
/-! zip and enumerate of lists and tuples, in any mix -/
namespace Lf
open PySem PySem.Spec PyProof.Rows L2 RZ
/-- enumerate(v) of one thing that is walked -/
theorem meets_enum_any {v : Value} {o : Obj} {H : Heap → Prop} (B : Begins v o H) :
    Meets (Builtin.«enumerate.__new__» ⟨[.type "enumerate", v], []⟩) (fun _ R st => H st.heap ∧
      R (.ok (.ret (.ref (st.heap.push o).objs.size)))
        { st with heap := (st.heap.push o).push { cls := .type "enumerate", data := .fields #[.none, .bool false, .ref st.heap.objs.size, rawInt 0, .none, .none] } }) :=
  .of_wp fun P0 w0 A0 R0 st h0 => by
    obtain ⟨hp, g, d, tk, os⟩ := st ; obtain ⟨h1, h⟩ := h0
    have hsub := sub_enumerate
    have q1 : ∀ {A' : Around} {E : Value → Shared → Prop} {Q : Value → Shared → Prop}, Q (.ref hp.objs.size) ⟨(hp.push o), g, d, tk, os⟩ → wpAny (model P0 w0) A' (pyIter v) Q E ⟨hp, g, d, tk, os⟩ :=
      fun q => B.iter P0 w0 _ _ ⟨hp, g, d, tk, os⟩ _ h1 q
    wp_walk
    refine wpAny_stack_any fun sk => wpAny_pure ?_
    split
    · rename_i c _ _ _ _ _
      cases (c == Value.type "enumerate")
      · wp_walk using q1
        exact ⟨_, rfl, h⟩
      · wp_walk using q1
        exact ⟨_, rfl, h⟩
    · wp_walk using q1
      exact ⟨_, rfl, h⟩
theorem enum_begins1 {prog : Program} {w : World} {A : Around} {E : Value → Shared → Prop} {s : Shared} {v : Value} {o : Obj} {H : Heap → Prop} {Q : Value → Shared → Prop} (B : Begins v o H) (h1 : H s.heap)
    (h : ∀ h', IsEnum h' (s.heap.objs.size + 1) s.heap.objs.size 0 .none → h'.get? s.heap.objs.size = some o → (∀ b u, s.heap.get? b = some u → h'.get? b = some u) → Q (.ref (s.heap.objs.size + 1)) { s with heap := h' }) :
    wpAny (model prog w) A (call (.type "enumerate") [v]) Q E s := by
  refine callType_new F.called_enumerate (by decide) (F.typeCall_enumerate_1 _) (F.newCall_enumerate_1 _) (fun obj => F.args_object_init_2 obj _) F.entry_enumerate_new (meets_enum_any B) ⟨h1, ?_⟩
  have hz : (s.heap.push o).objs.size = s.heap.objs.size + 1 := Heap.size_push ..
  have he := Heap.get?_push_size (s.heap.push o) (o := { cls := .type "enumerate", data := .fields #[.none, .bool false, .ref s.heap.objs.size, rawInt 0, .none, .none] }) rfl
  rw [hz] at he
  show _ ∧ _
  rw [hz]
  exact ⟨⟨_, he, rfl⟩, h _ he (Heap.get?_push_of_some _ (Heap.get?_push_size _ B.free)) fun b u e => Heap.get?_push_of_some _ (Heap.get?_push_of_some _ e)⟩
/-! a list (false) or a tuple (true) -/
def SqA (K : PySem.W.Frag) (b : Bool) (H : Hp) (a : Addr) (xs : List V) : Prop := if b then SqT K H a xs else SqL K H a xs
def rawA (b : Bool) (h : Heap) (a : Addr) (items : Array Value) : Prop := if b then h.IsTuple a items else h.IsList a items
def itA (b : Bool) (h : Heap) (it a : Addr) (i : Nat) : Prop := if b then h.IsTupleIter it a i else h.IsListIter it a i
def obA (b : Bool) (a : Addr) : Obj := { cls := .type (if b then "tuple_iterator" else "list_iterator"), data := .fields #[.ref a, .int 0 0] }
theorem draws_any {prog : Program} {w : World} {A : Around} (b : Bool) (hh : A.handled = none) (it a : Addr) (ne : a ≠ it) (items : Array Value) :
    Draws prog w A it [it, a] items.size (fun i v => items[i]? = some v) (fun i h => itA b h it a i ∧ rawA b h a items) := by
  cases b
  · exact Draws.list hh it a ne items
  · exact Draws.tuple hh it a ne items
theorem begins_any (b : Bool) (a : Addr) (items : Array Value) : Begins (.ref a) (obA b a) fun h => rawA b h a items := by
  cases b
  · exact begins_list a items
  · exact begins_tuple a items
theorem itA_first {b : Bool} {h : Heap} {it a : Addr} (e : h.get? it = some (obA b a)) : itA b h it a 0 := by
  cases b
  · exact ⟨_, e, rfl, rfl⟩
  · exact ⟨_, e, rfl, rfl⟩
theorem itA_obj {b : Bool} {h : Heap} {it a : Addr} {i : Nat} (e : itA b h it a i) : ∃ o, h.get? it = some o ∧ ∀ v, o.data ≠ .cell v := by
  cases b
  · obtain ⟨o, e1, _, d1⟩ := e; exact ⟨o, e1, fun v q => by rw [d1] at q; cases q⟩
  · obtain ⟨o, e1, _, d1⟩ := e; exact ⟨o, e1, fun v q => by rw [d1] at q; cases q⟩
theorem itA_keep {b : Bool} {h h' : Heap} {it a : Addr} {i : Nat} (e : itA b h it a i) (k : ∀ o, h.get? it = some o → h'.get? it = some o) : itA b h' it a i := by
  cases b
  · obtain ⟨o, e1, c1, d1⟩ := e; exact ⟨o, k o e1, c1, d1⟩
  · obtain ⟨o, e1, c1, d1⟩ := e; exact ⟨o, k o e1, c1, d1⟩
section
variable {X : Cx} {pins : List (Addr × Obj)} {σ : L2.St} {H : Hp} {s : Shared} {a : Addr} {xs ys : List V} {b : Bool}
theorem seq_any (I : Inv X pins σ H s) (h : SqA X.K b H a xs) : ∃ its : List Value, Vals xs its ∧ rawA b s.heap a its.toArray := by
  cases b
  · obtain ⟨its, rv, p, _⟩ := I.list h
    exact ⟨its, rv, p.isList⟩
  · obtain ⟨its, rv, p, _⟩ := I.tuple h
    exact ⟨its, rv, p⟩
theorem seq_inj (I : Inv X pins σ H s) (h : SqA X.K b H a xs) (h' : SqA X.K b H a ys) : xs = ys := by
  cases b
  · exact I.list_inj h h'
  · exact I.tuple_inj h h'
theorem raw_lt {h : Heap} {items : Array Value} (p : rawA b h a items) : a < h.objs.size := by
  cases b
  · obtain ⟨o, e, _⟩ := p; exact Heap.lt_size e
  · obtain ⟨o, e, _⟩ := p; exact Heap.lt_size e
end
/-! ### zip -/
def ItZ (K : PySem.W.Frag) (p q : Bool) (a b : Addr) : It :=
  ⟨fun i H => ∃ (xs ys : List V), SqA K p H a xs ∧ SqA K q H b ys ∧ i < xs.length ∧ i < ys.length,
    fun i H v H' => ∃ T x y, v = .ref T ∧ H T = none ∧ H' = upd H T (.tup [x, y]) ∧ (∀ xs, SqA K p H a xs → xs[i]? = some x) ∧ ∀ ys, SqA K q H b ys → ys[i]? = some y,
    fun i H => ∃ xs ys : List V, SqA K p H a xs ∧ SqA K q H b ys ∧ i ≤ xs.length ∧ i ≤ ys.length ∧ (i = xs.length ∨ i = ys.length)⟩
theorem turn_Z {P : Program} {w : World} {K : PySem.W.Frag} {elts : List Expr} {kk : Nat} {tpos : Pos} {p q : Bool} {a b z TI TO i1 i2 : Addr} (S : ZipSep2 z TI TO i1 i2 [i1, a] [i2, b]) (n1 : a ≠ i1) (n2 : b ≠ i2) :
    Turn P w K (.Tuple elts kk tpos) (ItZ K p q a b) [z, TI, TO, i1, i2] z (fun i h => IsZip h z TI TO .none ∧ IsTupOf2 h TI (.ref i1) (.ref i2) ∧ (∃ x y, IsTupOf2 h TO x y) ∧ itA p h i1 a i ∧ itA q h i2 b i) where
  mem := by simp
  obj := fun i h st c hc => by
    obtain ⟨hz, hTI, ⟨x, y, hTO⟩, h1, h2⟩ := st
    have e' : c = z ∨ c = TI ∨ c = TO ∨ c = i1 ∨ c = i2 := by simpa using hc
    rcases e' with u | u | u | u | u
    · rw [u]; exact ⟨_, hz, fun v q => nomatch q⟩
    · rw [u]; exact ⟨_, hTI, fun v q => nomatch q⟩
    · rw [u]; exact ⟨_, hTO, fun v q => nomatch q⟩
    · rw [u]; exact itA_obj h1
    · rw [u]; exact itA_obj h2
  keep := fun i h h' st k => by
    obtain ⟨hz, hTI, ⟨x, y, hTO⟩, h1, h2⟩ := st
    exact ⟨k z (by simp) _ hz, k TI (by simp) _ hTI, ⟨x, y, k TO (by simp) _ hTO⟩, itA_keep h1 fun o q => k i1 (by simp) o q, itA_keep h2 fun o q => k i2 (by simp) o q⟩
  item := by
    intro X hP hw hK hc i pins s σ H E I hf st hg
    subst hP hw hK
    obtain ⟨hz, hTI, ⟨x0, y0, hTO⟩, h1, h2⟩ := st
    obtain ⟨xs, ys, qx, qy, lx, ly⟩ := hg
    obtain ⟨its, rv, r1⟩ := seq_any I qx
    obtain ⟨its2, rv2, r2⟩ := seq_any I qy
    have l1 := rv.length
    have l2 := rv2.length
    have hzl : z < s.heap.objs.size := Heap.lt_size hz
    have hh := I.ok.hd hc
    have D1 := draws_any (prog := X.prog) (w := X.w) (A := X.A.in1) p (I.ok.hd hc) i1 a n1 its.toArray
    have D2 := draws_any (prog := X.prog) (w := X.w) (A := X.A.in1) q (I.ok.hd hc) i2 b n2 its2.toArray
    refine wpAny_pyNext_zipD2_item S D1 D2 hz hTI hTO ⟨h1, r1⟩ ⟨h2, r2⟩ (by simp; omega) (by simp; omega) fun u u2 h' tk e1 e2 z' TO' s1 s2 hT hsz hk => ?_
    have lx' : i < its.length := by omega
    have ly' : i < its2.length := by omega
    obtain ⟨x, hx⟩ : ∃ x, xs[i]? = some x := ⟨_, List.getElem?_eq_getElem lx⟩
    obtain ⟨y, hy⟩ : ∃ y, ys[i]? = some y := ⟨_, List.getElem?_eq_getElem ly⟩
    obtain ⟨w1, hw1, ru⟩ := rv.get hx
    obtain ⟨w2, hw2, ru2⟩ := rv2.get hy
    have f1 : u = w1 := by
      have e1' : its[i]? = some u := by simpa using e1
      rw [hw1] at e1'; exact (Option.some.inj e1').symm
    have f2 : u2 = w2 := by
      have e2' : its2[i]? = some u2 := by simpa using e2
      rw [hw2] at e2'; exact (Option.some.inj e2').symm
    subst f1 f2
    refine ⟨_, rfl, wpAny_letOwnedTupleGo_zip (s := { s with heap := h', toks := tk }) z' fun h'' z'' sb => ?_⟩
    have hT2 : h''.get? s.heap.objs.size = some { cls := .type "tuple", data := .seq #[u, u2] } := (sb.2 _ (Nat.ne_of_gt hzl)).trans hT
    have new : ObjOk X.prog X.w (upd H s.heap.objs.size (.tup [x, y])) h'' s.heap.objs.size (.tup [x, y]) :=
      ⟨by show 2 ≤ sizeLine; decide, [u, u2], .cons ru (.cons ru2 .nil), ⟨_, hT2, rfl, _, rfl⟩⟩
    have I1 : Inv X pins σ (upd H s.heap.objs.size (.tup [x, y])) { s with heap := h'', toks := tk } :=
      I.turnedNew (t' := tk) (ch := [z, TI, TO, i1, i2]) (fun c o hb e => (sb.2 c (fun q' => hb (by simp [q']))).trans (hk c o (fun q' => hb (by simp [q'])) (fun q' => hb (by simp [q'])) (fun q' => hb (by simp [q'])) (fun q' => hb (by simp [q'])) e)) hf (Nat.le_refl _) new
    have zi1 : i1 ≠ z := fun e => S.zf1 (by simp [e])
    have zi2 : i2 ≠ z := fun e => S.zf2 (by simp [e])
    have Ti1 : i1 ≠ TO := fun e => S.Tf1 (by simp [e])
    have Ti2 : i2 ≠ TO := fun e => S.Tf2 (by simp [e])
    have hTI' : h'.get? TI = _ := hk TI _ S.TIz S.TITO S.TIi1 S.TIi2 hTI
    refine ⟨.ref s.heap.objs.size, _, I1, rfl, ⟨_, x, y, rfl, I.hok.fresh (Nat.le_refl _), rfl, fun l hl => by rw [seq_inj I hl qx]; exact hx, fun l hl => by rw [seq_inj I hl qy]; exact hy⟩, ⟨z'', ?_, ⟨u, u2, ?_⟩, ?_, ?_⟩, fun c hcm => ?_⟩
    · exact (sb.2 _ S.TIz).trans hTI'
    · exact (sb.2 _ S.TOz).trans TO'
    · exact itA_keep s1.1 fun o e => (sb.2 _ zi1).trans e
    · exact itA_keep s2.1 fun o e => (sb.2 _ zi2).trans e
    · have hlt : c < s.heap.objs.size := by
        have e' : c = z ∨ c = TI ∨ c = TO ∨ c = i1 ∨ c = i2 := by simpa using hcm
        rcases e' with e | e | e | e | e
        · rw [e]; exact hzl
        · rw [e]; exact Heap.lt_size hTI
        · rw [e]; exact Heap.lt_size hTO
        · rw [e]; obtain ⟨_, e1, _⟩ := itA_obj h1; exact Heap.lt_size e1
        · rw [e]; obtain ⟨_, e2, _⟩ := itA_obj h2; exact Heap.lt_size e2
      rw [upd_ne (Nat.ne_of_lt hlt)]
      exact (hf c hcm).1
  done := by
    intro X hP hw hK hc i pins s σ H E I hf st hg
    subst hP hw hK
    obtain ⟨hz, hTI, ⟨x0, y0, hTO⟩, h1, h2⟩ := st
    obtain ⟨xs, ys, qx, qy, le1, le2, hend⟩ := hg
    obtain ⟨its, rv, r1⟩ := seq_any I qx
    obtain ⟨its2, rv2, r2⟩ := seq_any I qy
    have l1 := rv.length
    have l2 := rv2.length
    have D1 := draws_any (prog := X.prog) (w := X.w) (A := X.A.in1) p (I.ok.hd hc) i1 a n1 its.toArray
    have D2 := draws_any (prog := X.prog) (w := X.w) (A := X.A.in1) q (I.ok.hd hc) i2 b n2 its2.toArray
    exact wpAny_pyNext_zipD2_end S D1 D2 hz hTI hTO ⟨h1, r1⟩ ⟨h2, r2⟩ (by simp; omega) (by simp; omega) (by simp; omega) fun h' tk hk => ⟨rfl, I.turnedL (t' := tk) (ch := [z, TI, TO, i1, i2]) (fun c o hb e =>
      hk c o (fun q' => hb (by simp [q'])) (fun q' => hb (by simp [q'])) (fun q' => hb (by simp [q'])) (fun q' => hb (by simp [q'])) e) hf⟩
  self := fun A i s Q E st h => wpAny_pyIter_zip st.1 h
def iZipS (K : PySem.W.Frag) (ta : TA) : TI := fun σ H R => ta σ H fun vs H1 => ∃ a b p q xs ys, vs = [.ref a, .ref b] ∧ SqA K p H1 a xs ∧ SqA K q H1 b ys ∧ R (ItZ K p q a b) H1
theorem pi_zipS {X : Cx} {e e2 : Expr} {ta : TA} {p pos tpos : Pos} {elts : List Expr} {kk : Nat} (hg : Gl X "zip") (hm : X.mg "zip" = none) (ha : PA X [e, e2] ta)
    (hs : starEach [e, e2] X.env = (false, eval e X.env) :: starEach [e2] X.env := by rfl) (hpl : (backTo pos (starEach [e2] X.env)).any (·.1) = false := by rfl) :
    PI X (.Tuple elts kk tpos) (.Call (.Name "zip" p) [e, e2] [] pos) (iZipS X.K ta) := by
  refine ⟨fun pins s σ H R I h => ?_⟩
  refine Call_ (ld_blt I hg hm PyProof.Rows.boot_zip (PyProof.Rows.callWith_type1 (thn (ha.run pos pins s σ H _ I h) fun us s1 ⟨vs, H1, I1, rr, q1⟩ => ?_) hs hpl))
  obtain ⟨a, b, p1, p2, xs, ys, ex, qx, qy, q⟩ := q1
  subst ex
  cases rr with
  | cons ra rr =>
    cases rr with
    | cons rb rr =>
      cases rr; cases ra; cases rb
      obtain ⟨its, rv, r1⟩ := seq_any I1 qx
      obtain ⟨its2, rv2, r2⟩ := seq_any I1 qy
      refine zip_begins2 (begins_any p1 a its.toArray) (begins_any p2 b its2.toArray) r1 r2 fun h' hz hTI hTO g1 g2 hsz hk => wpAny_pyIter_zip hz ?_
      have la := raw_lt r1
      have lb := raw_lt r2
      have S : ZipSep2 (s1.heap.objs.size + 4) (s1.heap.objs.size + 2) (s1.heap.objs.size + 3) s1.heap.objs.size (s1.heap.objs.size + 1) [s1.heap.objs.size, a] [s1.heap.objs.size + 1, b] :=
        zip_sep2 (fp1 := [a]) (fp2 := [b]) (by simpa using la) (by simpa using lb)
      refine ⟨s1.heap.objs.size + 4, [s1.heap.objs.size + 4, s1.heap.objs.size + 2, s1.heap.objs.size + 3, s1.heap.objs.size, s1.heap.objs.size + 1], _, _, H1, rfl, I1.kept (t' := s1.toks) hk, turn_Z S (Nat.ne_of_lt la) (Nat.ne_of_lt (Nat.lt_succ_of_lt lb)),
        ⟨hz, hTI, ⟨_, _, hTO⟩, itA_first g1, itA_first g2⟩, fun c hcm => ?_, q⟩
      have hle : s1.heap.objs.size ≤ c := by
        have e' : c = s1.heap.objs.size + 4 ∨ c = s1.heap.objs.size + 2 ∨ c = s1.heap.objs.size + 3 ∨ c = s1.heap.objs.size ∨ c = s1.heap.objs.size + 1 := by simpa using hcm
        rcases e' with z | z | z | z | z <;> rw [z] <;> first | exact Nat.le_add_right _ _ | exact Nat.le_refl _
      exact I1.fpOk hle (I1.hok.fresh hle)
/-! ### enumerate -/
def ItE (K : PySem.W.Frag) (p : Bool) (a : Addr) : It :=
  ⟨fun i H => ∃ xs : List V, SqA K p H a xs ∧ i < xs.length,
    fun i H v H' => ∃ T x, v = .ref T ∧ H T = none ∧ H' = upd H T (.tup [.int (i : Nat), x]) ∧ ∀ xs, SqA K p H a xs → xs[i]? = some x,
    fun i H => ∃ xs : List V, SqA K p H a xs ∧ i = xs.length⟩
theorem turn_E {P : Program} {w : World} {K : PySem.W.Frag} {elts : List Expr} {kk : Nat} {tpos : Pos} {p : Bool} {a e it : Addr} (n1 : a ≠ it) (n2 : e ≠ it) (n3 : e ≠ a) :
    Turn P w K (.Tuple elts kk tpos) (ItE K p a) [e, it] e (fun i h => (∃ old, IsEnum h e it ((i : Nat) : Int) old) ∧ itA p h it a i) where
  mem := by simp
  obj := fun i h st c hc => by
    obtain ⟨⟨old, he⟩, h1⟩ := st
    have e' : c = e ∨ c = it := by simpa using hc
    rcases e' with u | u
    · rw [u]; exact ⟨_, he, fun v q => nomatch q⟩
    · rw [u]; exact itA_obj h1
  keep := fun i h h' st k => by
    obtain ⟨⟨old, he⟩, h1⟩ := st
    exact ⟨⟨old, k e (by simp) _ he⟩, itA_keep h1 fun o q => k it (by simp) o q⟩
  item := by
    intro X hP hw hK hc i pins s σ H E I hf st hg
    subst hP hw hK
    obtain ⟨⟨old, he⟩, h1⟩ := st
    obtain ⟨xs, qx, lx⟩ := hg
    obtain ⟨its, rv, r1⟩ := seq_any I qx
    have l1 := rv.length
    have hel : e < s.heap.objs.size := Heap.lt_size he
    have D1 := draws_any (prog := X.prog) (w := X.w) (A := X.A.in1) p (I.ok.hd hc) it a n1 its.toArray
    refine wpAny_pyNext_enum_itemC D1 he ⟨h1, r1⟩ (by simp; omega) n2 (by simp; exact ⟨n2, n3⟩) fun u h' tk e1 ho s1 hT hsz hk => ?_
    obtain ⟨x, hx⟩ : ∃ x, xs[i]? = some x := ⟨_, List.getElem?_eq_getElem lx⟩
    obtain ⟨w1, hw1, ru⟩ := rv.get hx
    have f1 : u = w1 := by
      have e1' : its[i]? = some u := by simpa using e1
      rw [hw1] at e1'; exact (Option.some.inj e1').symm
    subst f1
    have ei : ((i + 1 : Nat) : Int) = (i : Int) + 1 := by omega
    refine ⟨_, rfl, wpAny_letOwnedTupleGo_enum (s := { s with heap := h', toks := tk + 1 }) ho fun h'' he' sb => ?_⟩
    have hT2 : h''.get? s.heap.objs.size = some { cls := .type "tuple", data := .seq #[.int i tk, u] } := (sb.2 _ (Nat.ne_of_gt hel)).trans hT
    have new : ObjOk X.prog X.w (upd H s.heap.objs.size (.tup [.int (i : Nat), x])) h'' s.heap.objs.size (.tup [.int (i : Nat), x]) :=
      ⟨by show 2 ≤ sizeLine; decide, [.int i tk, u], .cons ⟨_, rfl⟩ (.cons ru .nil), ⟨_, hT2, rfl, _, rfl⟩⟩
    have I1 : Inv X pins σ (upd H s.heap.objs.size (.tup [.int (i : Nat), x])) { s with heap := h'', toks := tk + 1 } :=
      I.turnedNew (t' := tk + 1) (ch := [e, it]) (fun c o hb q => (sb.2 c (fun q' => hb (by simp [q']))).trans (hk c o (fun q' => hb (by simp [q'])) (fun q' => hb (by simp [q'])) q)) hf (Nat.le_refl _) new
    refine ⟨.ref s.heap.objs.size, _, I1, rfl, ⟨_, x, rfl, I.hok.fresh (Nat.le_refl _), rfl, fun l hl => by rw [seq_inj I hl qx]; exact hx⟩, ⟨⟨u, ?_⟩, ?_⟩, fun c hcm => ?_⟩
    · rw [ei]; exact he'
    · exact itA_keep s1.1 fun o q => (sb.2 _ (Ne.symm n2)).trans q
    · have hlt : c < s.heap.objs.size := by
        have e' : c = e ∨ c = it := by simpa using hcm
        rcases e' with z | z
        · rw [z]; exact hel
        · rw [z]; obtain ⟨_, e1, _⟩ := itA_obj h1; exact Heap.lt_size e1
      rw [upd_ne (Nat.ne_of_lt hlt)]
      exact (hf c hcm).1
  done := by
    intro X hP hw hK hc i pins s σ H E I hf st hg
    subst hP hw hK
    obtain ⟨⟨old, he⟩, h1⟩ := st
    obtain ⟨xs, qx, le1⟩ := hg
    obtain ⟨its, rv, r1⟩ := seq_any I qx
    have l1 := rv.length
    have D1 := draws_any (prog := X.prog) (w := X.w) (A := X.A.in1) p (I.ok.hd hc) it a n1 its.toArray
    have st' : itA p s.heap it a its.toArray.size ∧ rawA p s.heap a its.toArray := by
      have : its.toArray.size = i := by simp; omega
      rw [this]; exact ⟨h1, r1⟩
    exact wpAny_pyNext_enum_endD D1 he st' fun h' eb => ⟨rfl, I.turnedL (t' := s.toks) (ch := [e, it]) (fun c o hb q => eb c o (fun q' => hb (by simp [q'])) q) hf⟩
  self := fun A i s Q E st h => let ⟨⟨_, he⟩, _⟩ := st; wpAny_pyIter_enum he h
def iEnumS (K : PySem.W.Frag) (ta : TA) : TI := fun σ H R => ta σ H fun vs H1 => ∃ a p xs, vs = [.ref a] ∧ SqA K p H1 a xs ∧ R (ItE K p a) H1
theorem pi_enumS {X : Cx} {e : Expr} {ta : TA} {p pos tpos : Pos} {elts : List Expr} {kk : Nat} (hg : Gl X "enumerate") (hm : X.mg "enumerate" = none) (ha : PA X [e] ta) (hs : starEach [e] X.env = [(false, eval e X.env)] := by rfl) :
    PI X (.Tuple elts kk tpos) (.Call (.Name "enumerate" p) [e] [] pos) (iEnumS X.K ta) := by
  refine ⟨fun pins s σ H R I h => ?_⟩
  refine Call_ (ld_blt I hg hm boot_enumerate (PyProof.Rows.callWith_type1 (thn (ha.run pos pins s σ H _ I h) fun us s1 ⟨vs, H1, I1, rr, q1⟩ => ?_) hs rfl))
  obtain ⟨a, p1, xs, ex, qx, q⟩ := q1
  subst ex
  cases rr with
  | cons ra rr =>
    cases rr; cases ra
    obtain ⟨its, rv, r1⟩ := seq_any I1 qx
    have la := raw_lt r1
    refine enum_begins1 (begins_any p1 a its.toArray) r1 fun h' he g1 hk => wpAny_pyIter_enum he ?_
    refine ⟨s1.heap.objs.size + 1, [s1.heap.objs.size + 1, s1.heap.objs.size], _, _, H1, rfl, I1.kept (t' := s1.toks) hk, turn_E (Nat.ne_of_lt la) (Nat.succ_ne_self _) (Nat.ne_of_gt (Nat.lt_succ_of_lt la)), ⟨⟨_, he⟩, itA_first g1⟩, fun c hcm => ?_, q⟩
    have hle : s1.heap.objs.size ≤ c := by
      have e' : c = s1.heap.objs.size + 1 ∨ c = s1.heap.objs.size := by simpa using hcm
      rcases e' with z | z <;> rw [z] <;> first | exact Nat.le_add_right _ _ | exact Nat.le_refl _
    exact I1.fpOk hle (I1.hok.fresh hle)
/-! ### what they feed -/
def D.seq? : D → Option (Bool × List D)
  | .lst xs => some (false, xs)
  | .tup xs => some (true, xs)
  | _ => none
theorem seq_rp {K : PySem.W.Frag} {Hs : Hp} {v : V} {x : D} {xs : List D} {p : Bool} (rv : Rp Hs v x) (e : x.seq? = some (p, xs)) : ∃ a vs, v = .ref a ∧ RpA Hs vs xs ∧ ∀ H, Same Hs H → SqA K p H a vs := by
  cases x <;> simp [D.seq?] at e
  · obtain ⟨rfl, rfl⟩ := e
    obtain ⟨a, us, rfl, ha, qa⟩ := rv.lst_inv
    exact ⟨a, us, rfl, qa, fun H sm => SqL.of (sm _ _ ha)⟩
  · obtain ⟨rfl, rfl⟩ := e
    obtain ⟨a, us, rfl, ha, qa⟩ := rv.tup_inv
    exact ⟨a, us, rfl, qa, fun H sm => SqT.of (sm _ _ ha)⟩
theorem feeds_Z {K : PySem.W.Frag} {Hs Fr : Hp} {p r : Bool} {a b : Addr} {vs ws : List V} {ds es : List D} (sf : Same Hs Fr) (h : ∀ H, Same Hs H → SqA K p H a vs) (q : RpA Hs vs ds) (h2 : ∀ H, Same Hs H → SqA K r H b ws) (q2 : RpA Hs ws es) : Feeds Hs Fr (ItZ K p r a b) (zipD ds es) := by
  have l1 := q.1
  have l2 := q2.1
  have len : (zipD ds es).length = min ds.length es.length := by simp [zipD]
  refine ⟨fun i H hi fh => ?_, fun i H hi fh => ?_, fun Hs2 Fr2 H i x H' s f sf2 fh hi y => ?_⟩
  · exact ⟨vs, ws, h _ (sf.trans fh), h2 _ (sf.trans fh), by omega, by omega⟩
  · exact ⟨vs, ws, h _ (sf.trans fh), h2 _ (sf.trans fh), by omega, by omega, by omega⟩
  · obtain ⟨T, x1, y1, rfl, hT, rfl, f1, f2⟩ := y
    obtain ⟨d, hd, rd⟩ := q.at (f1 vs (h _ ((sf.trans f).trans fh)))
    obtain ⟨e, he, re⟩ := q2.at (f2 ws (h2 _ ((sf.trans f).trans fh)))
    obtain ⟨g, r⟩ := pair_gr sf2 fh hT (rd.mono s) (re.mono s)
    exact ⟨.tup [d, e], _, _, zipD_at hd he, g, r⟩
def diZipS (da : DA) : DI := fun env C => da env fun as env1 => ∃ x y p q xs ys, as = [x, y] ∧ x.seq? = some (p, xs) ∧ y.seq? = some (q, ys) ∧ C (zipD xs ys) env1
instance {K : PySem.W.Frag} {ta : TA} {da : DA} [h : AbsA ta da] : AbsI (iZipS K ta) (diZipS da) := ⟨fun σ Hs Fr H env R C er sf fh hd k => by
  refine h.run σ Hs Fr H env _ _ er sf fh hd fun vs as env1 Hs1 Fr1 H1 r1 s1 sf1 fh1 p1 h1 => ?_
  obtain ⟨x, y, p, q, xs, ys, rfl, e1, e2, h1⟩ := h1
  obtain ⟨v, w, rfl, rv, rw'⟩ := p1.two
  obtain ⟨a, us, rfl, qa, ha⟩ := seq_rp (K := K) rv e1
  obtain ⟨b, ws, rfl, qb, hb⟩ := seq_rp (K := K) rw' e2
  exact ⟨a, b, p, q, us, ws, rfl, ha _ (sf1.trans fh1), hb _ (sf1.trans fh1), k _ _ env1 Hs1 Fr1 H1 r1 s1 sf1 fh1 (feeds_Z sf1 ha qa hb qb) h1⟩⟩
theorem feeds_E {K : PySem.W.Frag} {Hs Fr : Hp} {p : Bool} {a : Addr} {vs : List V} {ds : List D} (sf : Same Hs Fr) (h : ∀ H, Same Hs H → SqA K p H a vs) (q : RpA Hs vs ds) : Feeds Hs Fr (ItE K p a) (enumD ds) := by
  have l1 := q.1
  have len := enumD_len ds
  refine ⟨fun i H hi fh => ?_, fun i H hi fh => ?_, fun Hs2 Fr2 H i x H' s f sf2 fh hi y => ?_⟩
  · exact ⟨vs, h _ (sf.trans fh), by omega⟩
  · exact ⟨vs, h _ (sf.trans fh), by omega⟩
  · obtain ⟨T, x1, rfl, hT, rfl, f1⟩ := y
    obtain ⟨d, hd, rd⟩ := q.at (f1 vs (h _ ((sf.trans f).trans fh)))
    obtain ⟨g, r⟩ := pair_gr sf2 fh hT (Rp.int (H := Hs2) ((i : Nat) : Int)) (rd.mono s)
    exact ⟨_, _, _, enumD_at hd, g, r⟩
def diEnumS (da : DA) : DI := fun env C => da env fun as env1 => ∃ x p xs, as = [x] ∧ x.seq? = some (p, xs) ∧ C (enumD xs) env1
instance {K : PySem.W.Frag} {ta : TA} {da : DA} [h : AbsA ta da] : AbsI (iEnumS K ta) (diEnumS da) := ⟨fun σ Hs Fr H env R C er sf fh hd k => by
  refine h.run σ Hs Fr H env _ _ er sf fh hd fun vs as env1 Hs1 Fr1 H1 r1 s1 sf1 fh1 p1 h1 => ?_
  obtain ⟨x, p, xs, rfl, e1, h1⟩ := h1
  obtain ⟨v, rfl, rv⟩ := p1.one
  obtain ⟨a, us, rfl, qa, ha⟩ := seq_rp (K := K) rv e1
  exact ⟨a, p, us, rfl, ha _ (sf1.trans fh1), k _ _ env1 Hs1 Fr1 H1 r1 s1 sf1 fh1 (feeds_E sf1 ha qa) h1⟩⟩
end Lf
set_option Elab.async false
set_option linter.all false
set_option maxRecDepth 100000
set_option maxHeartbeats 4000000
namespace Lf
open PySem PySem.Spec PyProof.Rows L2 RZ
/-! a chain of two comparisons -/
instance {r r' : R2} {ta tb tc : TE} {dr dr' : DR2} {da db dc : DE} [hr : AbsR r dr] [hr' : AbsR r' dr'] [ha : AbsE ta da] [hb : AbsE tb db] [hc : AbsE tc dc] : AbsE (tChain r r' ta tb tc) (dChain dr dr' da db dc) := ⟨fun σ Hs Fr H env Q C er sf fh hd k => by
  refine ha.run σ Hs Fr H env _ _ er sf fh hd fun x a env1 Hs1 Fr1 H1 r1 s1 sf1 fh1 p1 h1 => ?_
  refine hb.run σ Hs1 Fr1 H1 env1 _ _ r1 sf1 fh1 h1 fun y b env2 Hs2 Fr2 H2 r2 s2 sf2 fh2 p2 h2 => ?_
  refine hr.run Hs2 Fr2 H2 x y a b _ _ sf2 fh2 (p1.mono s2.s) p2 h2 fun z c Hs3 Fr3 H3 g3 p3 h3 => ?_
  obtain ⟨kk, rfl, h3⟩ := h3
  refine ⟨kk, p3.bl_inv, ?_⟩
  cases kk with
  | true =>
    simp only [if_true] at h3 ⊢
    refine hc.run σ Hs3 Fr3 H3 env2 _ _ (r2.gr g3) g3.sf g3.fh h3 fun w d env4 Hs4 Fr4 H4 r4 s4 sf4 fh4 p4 h4 => ?_
    refine hr'.run Hs4 Fr4 H4 y w b d _ _ sf4 fh4 ((p2.mono g3.st.s).mono s4.s) p4 h4 fun u e Hs5 Fr5 H5 g5 p5 h5 => ?_
    exact k u e env4 Hs5 Fr5 H5 (r4.gr g5) ((((s1.trans s2).trans g3.st).trans s4).trans g5.st) g5.sf g5.fh p5 h5
  | false =>
    simp only [Bool.false_eq_true, if_false] at h3 ⊢
    exact k _ _ env2 Hs3 Fr3 H3 (r2.gr g3) ((s1.trans s2).trans g3.st) g3.sf g3.fh (.bl false) h3⟩
/-! the defs of a text, by name -/
def Fn (P : Program) (w : World) (K : PySem.W.Frag) (mg : Str → Option Value) (base : Heap) (k : Nat) (x : Str) (ps : List Str) (sp : Sp) : Prop :=
  (∃ fd, FnOk P w K mg base CX0 k (He.ga K x) fd ps sp ∧ Binds K fd ps []) ∧ mg x = some (.ref (He.ga K x)) ∧ PySem.W.keepIn K (.ref (He.ga K x)) = true
section
variable {X : Cx} {k : Nat} {x : Str} {ps : List Str} {sp : Sp} {p pos : Pos} {e : Expr} {es : List Expr} {t : TA}
theorem pe_f (F : Fn X.prog X.w X.K X.mg X.base k x ps sp) (hr : Room k X.A) (hg : Gl X x) (ha : PA X (e :: es) t) (hdb : (x == ("__debug__" : Str)) = false := by decide)
    (he : starEach (e :: es) X.env = (false, eval e X.env) :: starEach es X.env := by rfl) (hpl : (backTo pos (starEach es X.env)).any (·.1) = false := by rfl) : PE X (.Call (.Name x p) (e :: es) [] pos) (tCall sp [] E0 t) := by
  obtain ⟨⟨fd, G, b⟩, hm, hk⟩ := F
  exact pe_call G hr hg hm hk b .nil pass0 ha hdb he hpl
theorem pe_fO (F : Fn X.prog X.w X.K X.mg X.base k x ps sp) (hr : Room k X.A) (hg : Gl X x) (i : Nat) (ha : PA X (e :: es) (tCons (tVar i) t)) (hdb : (x == ("__debug__" : Str)) = false := by decide)
    (he : starEach (e :: es) X.env = (false, eval e X.env) :: starEach es X.env := by rfl) (hpl : (backTo pos (starEach es X.env)).any (·.1) = false := by rfl) : PE X (.Call (.Name x p) (e :: es) [] pos) (tCallO sp i E0 t) := pe_f F hr hg ha hdb he hpl
end
structure TopX (P : Program) (w : World) (fa : List He.Fa) (fn : List He.DefD) (K : PySem.W.Frag) (mg : Str → Option Value) : Prop where
  says : He.SaysD fa fn K
  glo : ∀ x, He.Fa.glo x ∈ fa → mg x = some (.ref (He.ga K x))
  free : ∀ x, He.Fa.free x ∈ fa → mg x = none
  gcd : mg ("gcd" : Str) = some (.builtin "math.gcd")
def gcdB (K : PySem.W.Frag) : Bool := He.eqO (PySem.W.nsIn K mainGlobals ("gcd" : Str)) (some (some (.builtin "math.gcd")))
theorem TopX.of {P : Program} {w : World} {fa : List He.Fa} {fn : List He.DefD} {h : Heap} {K : PySem.W.Frag} {mg : Str → Option Value} (X : K.In h) (G : h.Ns mainGlobals mg) (c : He.SaysX fa fn [] [] gcdB w h K) : TopX P w fa fn K mg :=
  ⟨c.t.d, fun x hx => He.glo_ok X G (c.t.d.facts hx), fun x hx => He.free_ok X G (c.t.d.facts hx), PySem.W.mg_of X G (He.eqO_ok c.more)⟩
/-- the facts of a text: its globals, names that it leaves to the built-ins -/
def namesOf (xs ys : List Str) (zs : List He.Fa) : List He.Fa := xs.map .glo ++ (ys.map .free ++ zs)
theorem mem_glo {xs ys : List Str} {zs : List He.Fa} {x : Str} (h : x ∈ xs) : He.Fa.glo x ∈ namesOf xs ys zs := List.mem_append_left _ (List.mem_map_of_mem h)
theorem mem_free {xs ys : List Str} {zs : List He.Fa} {x : Str} (h : x ∈ ys) : He.Fa.free x ∈ namesOf xs ys zs := List.mem_append_right _ (List.mem_append_left _ (List.mem_map_of_mem h))
def ddef (x : Str) (st : Stmt) : He.DefD := ⟨(x, none), x, x, defArgs st, defBody st, defScope st, [], []⟩
theorem TopX.fn {P : Program} {w : World} {fa : List He.Fa} {fn : List He.DefD} {K : PySem.W.Frag} {mg : Str → Option Value} (T : TopX P w fa fn K mg) (i : Nat) {x : Str} {st : Stmt} (h : fn[i]? = some (ddef x st)) : ∃ fd, FunD K x x (defArgs st) (defBody st) (defScope st) [] [] (He.ga K x) fd :=
  T.says.def_ i h
end Lf
set_option Elab.async false
set_option linter.all false
set_option maxRecDepth 100000
set_option maxHeartbeats 4000000
/-! What a reading of data comes to, where it changes no object of one's own: a set of values -/
namespace Lf
open PySem PySem.Spec PyProof.Rows L2 RZ
def Es (de : DE) (env : Env) (S : D → Prop) : Prop := ∀ C : D → Env → Prop, (∀ d, S d → C d env) → de env C
def Ea (da : DA) (env : Env) (S : List D → Prop) : Prop := ∀ C : List D → Env → Prop, (∀ d, S d → C d env) → da env C
def Et (dt : DT) (env : Env) (S : Bool → Prop) : Prop := ∀ C : Bool → Env → Prop, (∀ d, S d → C d env) → dt env C
def Ei (di : DI) (env : Env) (S : List D → Prop) : Prop := ∀ C : List D → Env → Prop, (∀ d, S d → C d env) → di env C
abbrev Ev (de : DE) (env : Env) (d : D) : Prop := Es de env fun x => x = d
abbrev EvA (da : DA) (env : Env) (d : List D) : Prop := Ea da env fun x => x = d
abbrev EvT (dt : DT) (env : Env) (b : Bool) : Prop := Et dt env fun x => x = b
abbrev EvI (di : DI) (env : Env) (xs : List D) : Prop := Ei di env fun x => x = xs
section
variable {env : Env} {a b c : DE} {da : DA} {t u : DT} {S A B : D → Prop} {x y z d : D} {i : Nat}
theorem Es.imp {S' : D → Prop} (h : Es a env S) (k : ∀ d, S d → S' d) : Es a env S' := fun C hC => h C fun d hd => hC d (k d hd)
theorem ev_var (h : env[i]? = some (some (.d d))) : Ev (dVar i) env d := fun C k => ⟨d, h, k d rfl⟩
theorem ev_c : Ev (dC d) env d := fun C k => k d rfl
theorem es_op {r : DR2} (h1 : Es a env A) (h2 : Es b env B) (h : ∀ x y, A x → B y → ∀ C : D → Prop, (∀ z, S z → C z) → r x y C) : Es (dOp r a b) env S :=
  fun C k => h1 _ fun x hx => h2 _ fun y hy => h x y hx hy _ fun z hz => k z hz
theorem ev_op {r : DR2} (h1 : Ev a env x) (h2 : Ev b env y) (h : ∀ C : D → Prop, C z → r x y C) : Ev (dOp r a b) env z :=
  es_op h1 h2 fun _ _ e1 e2 C k => by subst e1 e2; exact h C (k z rfl)
theorem ev_un {r : D → (D → Prop) → Prop} (h1 : Ev a env x) (h : ∀ C : D → Prop, C z → r x C) : Ev (dUn r a) env z :=
  fun C k => h1 _ fun _ e => by subst e; exact h _ (k z rfl)
theorem ea_nil : EvA dNil env [] := fun C k => k _ rfl
theorem ea_cons {ds : List D} (h : Ev a env x) (h2 : EvA da env ds) : EvA (dCons a da) env (x :: ds) := fun C k => h _ fun _ e => h2 _ fun _ e2 => by subst e e2; exact k _ rfl
theorem es_cons1 (h : Es a env S) : Ea (dCons a dNil) env fun ds => ∃ x, S x ∧ ds = [x] := fun C k => h _ fun x e => k _ ⟨x, e, rfl⟩
theorem ev_cb {r : DC} {ds : List D} (h : EvA da env ds) (k : ∀ C : D → Prop, C z → r ds C) : Ev (dCB r da) env z := fun C q => h _ fun _ e => by subst e; exact k _ (q z rfl)
theorem es_cb {r : DC} {T : List D → Prop} (h : Ea da env T) (k : ∀ ds, T ds → ∀ C : D → Prop, (∀ z, S z → C z) → r ds C) : Es (dCB r da) env S := fun C q => h _ fun ds e => k ds e _ fun z hz => q z hz
theorem ev_tup {ds : List D} (h : EvA da env ds) (l : ds.length ≤ 100000) : Ev (dTup da) env (.tup ds) := fun C k => h _ fun _ e => by subst e; exact ⟨l, k _ rfl⟩
theorem ev_lst {ds : List D} (h : EvA da env ds) (l : ds.length ≤ 100000) : Ev (dLst da) env (.lst ds) := fun C k => h _ fun _ e => by subst e; exact ⟨l, k _ rfl⟩
theorem ev_andV {p : Bool} {q : Bool} (h : Ev a env (.bl p)) (h2 : p = true → Ev b env (.bl q)) : Ev (dAndV a b) env (.bl (p && q)) := fun C k => h _ fun _ e => by
  subst e
  refine ⟨p, rfl, ?_⟩
  cases p
  · exact k _ rfl
  · exact h2 rfl _ fun _ e => k _ e
theorem ev_orV {p : Bool} {q : Bool} (h : Ev a env (.bl p)) (h2 : p = false → Ev b env (.bl q)) : Ev (dOrV a b) env (.bl (p || q)) := fun C k => h _ fun _ e => by
  subst e
  refine ⟨p, rfl, ?_⟩
  cases p
  · exact h2 rfl _ fun _ e => k _ e
  · exact k _ rfl
theorem ev_notV {p : Bool} (h : Ev a env (.bl p)) : Ev (dNotV a) env (.bl (!p)) := fun C k => h _ fun _ e => by
  subst e; exact ⟨p, rfl, k _ rfl⟩
theorem et_test {p : Bool} (h : Ev a env (.bl p)) : EvT (dTest a) env p := fun C k => h _ fun _ e => ⟨p, e, k _ rfl⟩
theorem es_test {T : Bool → Prop} (h : Es a env fun x => ∃ p, x = .bl p ∧ T p) : Et (dTest a) env T := fun C k => h _ fun _ ⟨p, e, hp⟩ => ⟨p, e, k p hp⟩
theorem et_and {p q : Bool} (h : EvT t env p) (h2 : p = true → EvT u env q) : EvT (dAnd t u) env (p && q) := fun C k => h _ fun _ e => by
  subst e
  rename_i p
  cases p
  · exact k _ rfl
  · exact h2 rfl _ fun _ e => k _ e
theorem et_or {p q : Bool} (h : EvT t env p) (h2 : p = false → EvT u env q) : EvT (dOr t u) env (p || q) := fun C k => h _ fun _ e => by
  subst e
  rename_i p
  cases p
  · exact h2 rfl _ fun _ e => k _ e
  · exact k _ rfl
theorem et_not {p : Bool} (h : EvT t env p) : EvT (dNot t) env (!p) := fun C k => h _ fun _ e => by subst e; exact k _ rfl
theorem ev_if {p : Bool} (h : EvT t env p) (h1 : p = true → Ev a env z) (h2 : p = false → Ev b env z) : Ev (dIf t a b) env z := fun C k => h _ fun _ e => by
  subst e
  rename_i p
  cases p
  · exact h2 rfl _ k
  · exact h1 rfl _ k
theorem ev_chain {r r' : DR2} {p q : Bool} {w : D} (h1 : Ev a env x) (h2 : Ev b env y) (h : ∀ C : D → Prop, C (.bl p) → r x y C) (h3 : p = true → Ev c env w) (h4 : p = true → ∀ C : D → Prop, C (.bl q) → r' y w C) : Ev (dChain r r' a b c) env (.bl (p && q)) := fun C k =>
  h1 _ fun _ e1 => h2 _ fun _ e2 => by
    subst e1 e2
    refine h _ ⟨p, rfl, ?_⟩
    cases p
    · exact k _ rfl
    · exact h3 rfl _ fun _ e3 => by subst e3; exact h4 rfl _ (k _ rfl)
theorem es_call {n : Nat} {pw : PW} {ds : List D} (h : EvA da env ds) (l : ds.length = n) (k : ∀ C : D → Prop, (∀ z, S z → C z) → pw ds C) : Es (dCallP n pw da) env S := fun C q => h _ fun _ e => by subst e; exact ⟨l, k _ fun z hz => q z hz⟩
theorem ev_call {n : Nat} {pw : PW} {ds : List D} (h : EvA da env ds) (l : ds.length = n) (k : ∀ C : D → Prop, C z → pw ds C) : Ev (dCallP n pw da) env z := es_call h l fun C q => k C (q z rfl)
theorem ev_isi {T : String} {p : Bool} (h : Ev a env x) (e : kitB x.ty T = some p) : Ev (dIsi T a) env (.bl p) := fun C k => h _ fun _ e2 => by subst e2; exact ⟨p, e, k _ rfl⟩
theorem ev_isi2 {T U : String} {p q : Bool} (h : Ev a env x) (e : kitB x.ty T = some p) (e' : kitB x.ty U = some q) : Ev (dIsi2 T U a) env (.bl (p || q)) := fun C k => h _ fun _ e2 => by subst e2; exact ⟨p, q, e, e', k _ rfl⟩
/-! what is walked -/
theorem ei_seq {xs : List D} (h : Ev a env x) (e : x.items? = some xs) : EvI (diSeq a) env xs := fun C k => h _ fun _ e2 => by subst e2; exact ⟨xs, e, k _ rfl⟩
theorem ei_zip {p q : Bool} {xs ys : List D} (h : EvA da env [x, y]) (e1 : x.seq? = some (p, xs)) (e2 : y.seq? = some (q, ys)) : EvI (diZipS da) env (zipD xs ys) := fun C k => h _ fun _ e => ⟨x, y, p, q, xs, ys, e, e1, e2, k _ rfl⟩
theorem ei_enum {p : Bool} {xs : List D} (h : EvA da env [x]) (e1 : x.seq? = some (p, xs)) : EvI (diEnumS da) env (enumD xs) := fun C k => h _ fun _ e => ⟨x, p, xs, e, e1, k _ rfl⟩
theorem ei_r1 {n : Int} (h : EvA da env [.int n]) (h1 : n < 2 ^ 62) (h2 : -(2 ^ 62) ≤ n) : EvI (diR1 da) env (rngD 0 n.toNat) := fun C k => h _ fun _ e => ⟨n, e, h1, h2, k _ rfl⟩
/-! targets -/
def Tg (dg : DG) (x : D) (env e2 : Env) : Prop := ∀ C : Env → Prop, C e2 → dg x env C
def Tgs (dg : List D → Env → (Env → Prop) → Prop) (xs : List D) (env e2 : Env) : Prop := ∀ C : Env → Prop, C e2 → dg xs env C
theorem tg_n (h : free env i = true) : Tg (dgN i) d env (env.set i (some (.d d))) := fun C k => ⟨h, k⟩
theorem tgs_nil : Tgs dgNil [] env env := fun C k => ⟨rfl, k⟩
theorem tgs_cons {g : DG} {gs : List D → Env → (Env → Prop) → Prop} {r : List D} {e1 e2 : Env} (h : Tg g d env e1) (h2 : Tgs gs r e1 e2) : Tgs (dgCons g gs) (d :: r) env e2 := fun C k => ⟨d, r, rfl, h _ (h2 _ k)⟩
theorem tg_tup {n : Nat} {gs : List D → Env → (Env → Prop) → Prop} {xs : List D} {e2 : Env} (h : Tgs gs xs env e2) (l : xs.length = n) : Tg (dgTup n gs) (.tup xs) env e2 := fun C k => ⟨xs, rfl, l, h _ k⟩
theorem tg_two {j : Nat} {x y : D} (h : free env i = true) (h2 : free (env.set i (some (.d x))) j = true) : Tg (dgTup 2 (dgCons (dgN i) (dgCons (dgN j) dgNil))) (.tup [x, y]) env ((env.set i (some (.d x))).set j (some (.d y))) :=
  tg_tup (tgs_cons (tg_n h) (tgs_cons (tg_n h2) tgs_nil)) rfl
/-! comprehensions -/
theorem take_next {α : Type} {xs : List α} {i : Nat} {x : α} (hx : xs[i]? = some x) : List.take (i + 1) xs = List.take i xs ++ [x] := by
  rw [List.take_add_one, hx]; rfl
/-- with a test: x gives g x, one or none -/
theorem ev_lc {di : DI} {dg : DG} {js vs : List Nat} {dt : DT} {de : DE} {xs : List D} (g : D → List D) (hi : EvI di env xs) (l : xs.length ≤ 100000) (hj : ∀ j ∈ js, j ∈ vs) (no : noOwnB env vs = true)
    (h : ∀ x ∈ xs, ∃ e2, Tg dg x (wipeE env vs) e2 ∧ ((∃ y, g x = [y] ∧ EvT dt e2 true ∧ Ev de e2 y) ∨ (g x = [] ∧ EvT dt e2 false))) : Ev (dOfN (dLcN di dg js dt de vs)) env (.lst (xs.flatMap g)) := fun C k => by
  refine ⟨hj, hi _ fun ys e => ?_⟩
  subst e
  refine ⟨l, no, fun i acc => acc = (List.take i ys).flatMap g, by simp, fun i acc hl hacc => ⟨fun x hx => ?_, fun e => ?_⟩⟩
  · obtain ⟨e2, ht, hc⟩ := h x (List.mem_of_getElem? hx)
    refine ht _ ?_
    rcases hc with ⟨y, hg, h1, h2⟩ | ⟨hg, h1⟩
    · refine h1 _ fun b eb => ?_
      subst eb
      simp only [if_true]
      refine h2 _ fun z ez => ⟨by first | rfl | trivial, ?_⟩
      subst ez
      rw [take_next hx, List.flatMap_append, hacc]
      simp [hg]
    · refine h1 _ fun b eb => ?_
      subst eb
      simp only [Bool.false_eq_true, if_false]
      refine ⟨by first | rfl | trivial, ?_⟩
      rw [take_next hx, List.flatMap_append, hacc]
      simp [hg]
  · subst e
    rw [hacc, List.take_length]
    exact k _ rfl
theorem flatMap_one {α β : Type} (f : α → β) (xs : List α) : xs.flatMap (fun x => [f x]) = xs.map f := by
  induction xs with
  | nil => rfl
  | cons x xs ih => simp [List.flatMap_cons, ih]
theorem et_yes : EvT dYes env true := fun C k => k _ rfl
/-- without a test -/
theorem ev_map {di : DI} {dg : DG} {js vs : List Nat} {de : DE} {xs : List D} (f : D → D) (hi : EvI di env xs) (l : xs.length ≤ 100000) (hj : ∀ j ∈ js, j ∈ vs) (no : noOwnB env vs = true)
    (h : ∀ x ∈ xs, ∃ e2, Tg dg x (wipeE env vs) e2 ∧ Ev de e2 (f x)) : Ev (dOfN (dLcN di dg js dYes de vs)) env (.lst (xs.map f)) := by
  rw [← flatMap_one]
  exact ev_lc _ hi l hj no fun x hx => let ⟨e2, h1, h2⟩ := h x hx; ⟨e2, h1, .inl ⟨f x, rfl, et_yes, h2⟩⟩
/-- any values of a kind -/
theorem es_lc {di : DI} {dg : DG} {js vs : List Nat} {de : DE} {xs : List D} (T : Nat → D → Prop) (hi : EvI di env xs) (l : xs.length ≤ 100000) (hj : ∀ j ∈ js, j ∈ vs) (no : noOwnB env vs = true)
    (h : ∀ i x, xs[i]? = some x → ∃ e2, Tg dg x (wipeE env vs) e2 ∧ Es de e2 (T i)) : Es (dOfN (dLcN di dg js dYes de vs)) env (fun d => ∃ ys : List D, d = .lst ys ∧ ys.length = xs.length ∧ ∀ i y, ys[i]? = some y → T i y) := fun C k => by
  refine ⟨hj, hi _ fun _ e => ?_⟩
  subst e
  refine ⟨l, no, fun i acc => acc.length = i ∧ ∀ j y, acc[j]? = some y → T j y, ⟨rfl, fun j y e => by simp at e⟩, fun i acc hl hacc => ⟨fun x hx => ?_, fun e => ?_⟩⟩
  · obtain ⟨e2, ht, hc⟩ := h i x hx
    refine ht _ (et_yes _ fun b eb => ?_)
    subst eb
    simp only [if_true]
    refine hc _ fun z hz => ⟨rfl, by simp [hacc.1], fun j y e => ?_⟩
    by_cases q : j < acc.length
    · rw [List.getElem?_append_left q] at e
      exact hacc.2 j y e
    · rw [List.getElem?_append_right (by omega)] at e
      have : j - acc.length = 0 := by
        have := (List.getElem?_eq_some_iff.mp e).1
        simp at this; omega
      rw [this] at e
      have e3 : z = y := by simpa using e
      have : j = i := by omega
      subst e3 this
      exact hz
  · subst e
    exact k _ ⟨acc, rfl, hacc.1, hacc.2⟩
/-! statements -/
variable {E : DEnds} {s1 s2 : DS}
theorem st_seq (h : s1 env { E with nx := fun e => s2 e E }) : dSeq s1 s2 env E := h
theorem st_ret (h : Es a env S) (k : ∀ d, S d → E.rt d env) : dRet a env E := h _ fun d hd => ⟨keepE_refl, k d hd⟩
theorem st_ret1 (h : Ev a env d) (k : E.rt d env) : dRet a env E := st_ret h fun _ e => e ▸ k
theorem st_asg (h : Es a env S) (f : free env i = true) (k : ∀ d, S d → E.nx (env.set i (some (.d d)))) : dAsg a (dgN i) env E := h _ fun d hd => ⟨keepE_refl, f, k d hd⟩
theorem st_asg1 (h : Ev a env d) (f : free env i = true) (k : E.nx (env.set i (some (.d d)))) : dAsg a (dgN i) env E := st_asg h f fun _ e => e ▸ k
theorem st_asgT {dg : DG} {e2 : Env} (h : Ev a env d) (f : Tg dg d env e2) (k : E.nx e2) : dAsg a dg env E := h _ fun x hx => ⟨keepE_refl, by subst hx; exact f _ k⟩
theorem st_drop (h : Es a env S) (k : E.nx env) : dDrop a env E := h _ fun d hd => ⟨keepE_refl, k⟩
theorem st_if {T : Bool → Prop} (h : Et t env T) (h1 : T true → s1 env E) (h2 : T false → s2 env E) : dIfS t s1 s2 env E := h _ fun b hb => ⟨keepE_refl, by
  cases b
  · exact h2 hb
  · exact h1 hb⟩
theorem st_if1 {p : Bool} (h : EvT t env p) (h1 : p = true → s1 env E) (h2 : p = false → s2 env E) : dIfS t s1 s2 env E := st_if h (fun e => h1 e.symm) (fun e => h2 e.symm)
theorem st_par {j : Nat} {x y : D} (h : EvA da env [x, y]) (f1 : free env i = true) (f2 : free env j = true) (k : E.nx ((env.set i (some (.d x))).set j (some (.d y)))) : dPar i j da env E := h _ fun ds e => ⟨keepE_refl, x, y, e, f1, f2, k⟩
/-- a loop whose environments are told by the turn -/
theorem st_for {di : DI} {dg : DG} {xs : List D} (W : Nat → Env → Prop) (hi : EvI di env xs) (h0 : W 0 env)
    (h : ∀ i x e, xs[i]? = some x → W i e → ∃ e2, Tg dg x e e2 ∧ s1 e2 { nx := W (i + 1), ct := W (i + 1), bk := E.nx, rt := E.rt }) (k : ∀ e, W xs.length e → E.nx e) : dFor di dg s1 env E :=
  hi _ fun ys ey => by
    subst ey
    exact ⟨keepE_refl, W, h0, fun i e hw => ⟨fun x hx => let ⟨e2, h1, h2⟩ := h i x e hx hw; h1 _ h2, fun el => k e (el ▸ hw)⟩⟩
theorem st_while (W : Nat → Env → Prop) {m0 : Nat} (h0 : W m0 env) (h : ∀ m e, W m e → ∃ p : Bool, EvT t e p ∧ (p = true → s1 e { nx := fun e2 => ∃ m', m' < m ∧ W m' e2, ct := fun e2 => ∃ m', m' < m ∧ W m' e2, bk := E.nx, rt := E.rt }) ∧ (p = false → E.nx e)) : dWhile t s1 env E :=
  ⟨W, ⟨m0, h0⟩, fun m e hw => by
    obtain ⟨p, ht, h1, h2⟩ := h m e hw
    refine ht _ fun b eb => ⟨keepE_refl, ?_⟩
    subst eb
    cases b
    · exact h2 rfl
    · exact h1 rfl⟩
end
end Lf
set_option Elab.async false
set_option linter.all false
set_option maxRecDepth 100000
set_option maxHeartbeats 4000000
/-! Operators and built-ins on given data -/
namespace Lf
open PySem PySem.Spec PyProof.Rows L2 RZ
section
variable {C : D → Prop} {i j : Int} {x y d : D} {xs ys : List D}
theorem rv_ib {f : Int → Int → Bool} {b : Bool} (e : f i j = b) (h : C (.bl b)) : rIB f (.int i) (.int j) C := ⟨i, j, rfl, rfl, e ▸ h⟩
theorem rv_ii {f : Int → Int → Int} {k : Int} (e : f i j = k) (h : C (.int k)) : rII f (.int i) (.int j) C := ⟨i, j, rfl, rfl, e ▸ h⟩
theorem rv_iic {P : Int → Int → Prop} {f : Int → Int → Int} {k : Int} (p : P i j) (e : f i j = k) (h : C (.int k)) : rIIc P f (.int i) (.int j) C := ⟨i, j, rfl, rfl, p, e ▸ h⟩
theorem rv_add {k : Int} (e : i + j = k) (h : C (.int k)) : dbAdd (.int i) (.int j) C := .inl ⟨i, j, rfl, rfl, e ▸ h⟩
theorem rv_addT (l : xs.length + ys.length ≤ 100000) (h : C (.tup (xs ++ ys))) : dbAdd (.tup xs) (.tup ys) C := .inr (.inl ⟨xs, ys, rfl, rfl, l, h⟩)
theorem rv_addL (l : xs.length + ys.length ≤ 100000) (h : C (.lst (xs ++ ys))) : dbAdd (.lst xs) (.lst ys) C := .inr (.inr ⟨xs, ys, rfl, rfl, l, h⟩)
theorem rv_mul {k : Int} (b : CMul i j ∨ CMulW i j) (e : i * j = k) (h : C (.int k)) : dbMul (.int i) (.int j) C := .inl ⟨i, j, rfl, rfl, b, e ▸ h⟩
theorem rv_mulT {k : Int} (ne : xs ≠ []) (h1 : 1 ≤ k) (h2 : k ≤ 1000) (l : xs.length ≤ 1000) (h : C (.tup (List.replicate k.toNat xs).flatten)) : dbMul (.tup xs) (.int k) C := .inr (.inl ⟨xs, k, rfl, rfl, ne, h1, h2, l, h⟩)
theorem rv_fdivN {k : Int} (b : CDivN i j) (e : i.fdiv j = k) (h : C (.int k)) : dbFdiv (.int i) (.int j) C := ⟨i, j, rfl, rfl, .inl ⟨b, e ▸ h⟩⟩
theorem rv_fdivW {k : Int} (b : CDivW i j) (e : i / j = k) (h : C (.int k)) : dbFdiv (.int i) (.int j) C := ⟨i, j, rfl, rfl, .inr ⟨b, e ▸ h⟩⟩
theorem rv_ixL (e : atI xs i = some d) (h : C d) : dIx (.lst xs) (.int i) C := .inl ⟨xs, i, d, rfl, rfl, e, h⟩
theorem rv_ixT (e : atI xs i = some d) (h : C d) : dIx (.tup xs) (.int i) C := .inr ⟨xs, i, d, rfl, rfl, e, h⟩
theorem rv_isN {b : Bool} (e : x.isN = b) (h : C (.bl b)) : dIsN x .non C := ⟨rfl, e ▸ h⟩
theorem rv_notN {b : Bool} (e : (!x.isN) = b) (h : C (.bl b)) : dNotN x .non C := ⟨rfl, e ▸ h⟩
theorem rv_eq {b : Bool} (h1 : shp x) (h2 : shp y) (e : dEq x y = b) (h : C (.bl b)) : dEqD x y C := ⟨h1, h2, e ▸ h⟩
theorem rv_ne {b : Bool} (h1 : shp x) (h2 : shp y) (e : (!dEq x y) = b) (h : C (.bl b)) : dNeD x y C := ⟨h1, h2, e ▸ h⟩
theorem cv_len (e : x.items? = some xs) (h : C (.int xs.length)) : dLen [x] C := ⟨x, xs, rfl, e, h⟩
theorem cv_all {bs : List Bool} (h : C (.bl (bs.all id))) : dAll [.lst (bs.map D.bl)] C := ⟨bs, rfl, h⟩
theorem all_true {α : Type} (xs : List α) : (xs.map fun _ => true).all id = true := by
  induction xs with
  | nil => rfl
  | cons x xs ih => simp
theorem cv_allT {α : Type} {zs : List α} (h : C (.bl true)) : dAll [.lst (zs.map fun _ => D.bl true)] C := by
  have : (zs.map fun _ => D.bl true) = (zs.map fun _ => true).map D.bl := by simp
  rw [this]
  exact cv_all (by rw [all_true]; exact h)
theorem cv_sum {ns : List Int} (e : xs = ns.map D.int) (h : C (.int ns.sum)) : dSum [.lst xs] C := ⟨ns, by rw [e], h⟩
theorem cv_tup (e : x.items? = some xs) (h : C (.tup xs)) : dTupQ [x] C := ⟨x, xs, rfl, e, h⟩
theorem cv_list (e : x.items? = some xs) (h : C (.lst xs)) : dListQ [x] C := ⟨x, xs, rfl, e, h⟩
theorem cv_gcd (h : C (.int ((Nat.gcd i.natAbs j.natAbs : Nat) : Int))) : dGcd [.int i, .int j] C := ⟨i, j, rfl, h⟩
theorem cv_abs (h : C (.int i.natAbs)) : dAbs [.int i] C := ⟨i, rfl, by
  have : (if i < 0 then -i else i) = i.natAbs := by split <;> omega
  rw [this]; exact h⟩
theorem cv_int1 (h : C (.int i)) : dInt1 [.int i] C := .inl ⟨i, rfl, h⟩
end
/-! == -/
theorem canLayAll_of {xs : List PyData} (h : ∀ x ∈ xs, x.canLay0 = true) : PyData.canLayAll0 xs = true := by
  induction xs with
  | nil => rfl
  | cons x xs ih => simp only [PyData.canLayAll0]; rw [h x (by simp), ih fun y hy => h y (by simp [hy])]; rfl
theorem depthAll_of {n : Nat} {xs : List PyData} (h : ∀ x ∈ xs, x.depth ≤ n) : PyData.depthAll xs ≤ n := by
  induction xs with
  | nil => simp [PyData.depthAll]
  | cons x xs ih => simp only [PyData.depthAll]; have := h x (by simp); have := ih fun y hy => h y (by simp [hy]); omega
/-- data of at most n lists and tuples one within another -/
def flat (n : Nat) (d : D) : Prop := d.toP.canLay0 = true ∧ d.toP.depth ≤ n
theorem flat.mono {n m : Nat} {d : D} (h : flat n d) (l : n ≤ m) : flat m d := ⟨h.1, Nat.le_trans h.2 l⟩
theorem flat.shp {n : Nat} {d : D} (h : flat n d) (l : n ≤ 64 := by decide) : shp d := by
  unfold Lf.shp SeqAt.shaped
  rw [h.1]
  simp [Nat.le_trans h.2 l]
theorem flat_int {i : Int} : flat 0 (.int i) := ⟨by simp [D.toP, PyData.canLay0], by simp [D.toP, PyData.depth]⟩
theorem flat_non : flat 0 .non := ⟨by simp [D.toP, PyData.canLay0], by simp [D.toP, PyData.depth]⟩
theorem flat_bl {b : Bool} : flat 0 (.bl b) := ⟨by simp [D.toP, PyData.canLay0], by simp [D.toP, PyData.depth]⟩
theorem flat_lst {n : Nat} {xs : List D} (h : ∀ x ∈ xs, flat n x) : flat (n + 1) (.lst xs) := by
  refine ⟨?_, ?_⟩
  · simp only [D.toP, D.toPs_eq, PyData.canLay0]
    exact canLayAll_of fun x hx => by obtain ⟨y, hy, rfl⟩ := List.mem_map.mp hx; exact (h y hy).1
  · simp only [D.toP, D.toPs_eq, PyData.depth]
    have := depthAll_of (n := n) (xs := xs.map D.toP) fun x hx => by obtain ⟨y, hy, rfl⟩ := List.mem_map.mp hx; exact (h y hy).2
    omega
theorem flat_tup {n : Nat} {xs : List D} (h : ∀ x ∈ xs, flat n x) : flat (n + 1) (.tup xs) := by
  refine ⟨?_, ?_⟩
  · simp only [D.toP, D.toPs_eq, PyData.canLay0]
    exact canLayAll_of fun x hx => by obtain ⟨y, hy, rfl⟩ := List.mem_map.mp hx; exact (h y hy).1
  · simp only [D.toP, D.toPs_eq, PyData.depth]
    have := depthAll_of (n := n) (xs := xs.map D.toP) fun x hx => by obtain ⟨y, hy, rfl⟩ := List.mem_map.mp hx; exact (h y hy).2
    omega
theorem dEq_refl {n : Nat} {d : D} (h : flat n d) : dEq d d = true := SeqAt.eqv_refl _ h.1
theorem dEq_int (i j : Int) : dEq (.int i) (.int j) = decide (i = j) := by
  simp only [dEq, D.toP, PyData.eqv]
  by_cases h : i = j <;> simp [h]
/-- a row of ints -/
def rowD (r : List Int) : D := .tup (r.map .int)
theorem rowD_len (r : List Int) : (r.map D.int).length = r.length := List.length_map ..
theorem flat_row {r : List Int} : flat 1 (rowD r) := flat_tup fun x hx => by obtain ⟨i, _, rfl⟩ := List.mem_map.mp hx; exact flat_int
theorem flat_lrow {r : List Int} : flat 1 (.lst (r.map .int)) := flat_lst fun x hx => by obtain ⟨i, _, rfl⟩ := List.mem_map.mp hx; exact flat_int
theorem eqvAll_ints : ∀ r s : List Int, PyData.eqvAll (D.toPs (r.map D.int)) (D.toPs (s.map D.int)) = decide (r = s)
  | [], [] => by simp [D.toPs, PyData.eqvAll]
  | [], _ :: _ => by simp [D.toPs, PyData.eqvAll]
  | _ :: _, [] => by simp [D.toPs, PyData.eqvAll]
  | a :: r, b :: s => by
    have := eqvAll_ints r s
    simp only [List.map_cons, D.toPs, PyData.eqvAll, this, D.toP, PyData.eqv]
    by_cases h : a = b <;> by_cases g : r = s <;> simp [h, g]
theorem dEq_row (r s : List Int) : dEq (rowD r) (rowD s) = decide (r = s) := by
  simp only [dEq, rowD, D.toP, PyData.eqv]
  exact eqvAll_ints r s
theorem dEq_nil {xs : List D} : dEq (.lst xs) (.lst []) = xs.isEmpty := by
  cases xs <;> simp [dEq, D.toP, D.toPs, PyData.eqv, PyData.eqvAll]
end Lf
set_option Elab.async false
set_option linter.all false
set_option maxRecDepth 100000
set_option maxHeartbeats 4000000
/-! The object that a law draws from: a dict of one's own -/
namespace Lf
open PySem PySem.Spec PyProof.Rows L2 RZ
theorem length_put {kvs : List (Key × V)} {k : Key} {u : V} (v : V) (h : valV kvs k = some u) : (putK kvs k v).length = kvs.length := by
  unfold putK
  rw [valV_any, h]
  simp
structure DrwAt (Hs H : Hp) (v : V) (fp : List Addr) (large : List Int) (p l c : Addr) (kvs : List (Key × V)) (cells : List Int) (rest turn : Int) : Prop where
  ev : v = .ref p
  ef : fp = [p, l]
  ne : p ≠ l
  hp : H p = some (.dK kvs)
  few : kvs.length ≤ 4
  gl : valV kvs (Sum.inr ("large" : Str)) = some (.ref l)
  gc : valV kvs (Sum.inr ("cells" : Str)) = some (.ref c)
  gr : valV kvs (Sum.inr ("rest" : Str)) = some (.int rest)
  gt : valV kvs (Sum.inr ("turn" : Str)) = some (.int turn)
  hl : H l = some (.lst (large.map V.int))
  hc : Rp Hs (.ref c) (.lst (cells.map D.int))
  r0 : 0 ≤ rest
  t0 : 0 ≤ turn
  l0 : ∀ x ∈ large, 0 ≤ x
  c0 : ∀ x ∈ cells, 0 ≤ x
/-- .. with that many numbers left -/
def drwN (large : List Int) : Ow where
  At := fun Hs H v fp => ∃ p l c kvs cells rest turn, DrwAt Hs H v fp large p l c kvs cells rest turn
  mono := fun {Hs H Hs' H' v fp} ⟨p, l, c, kvs, cells, rest, turn, d⟩ s k =>
    ⟨p, l, c, kvs, cells, rest, turn, { d with hp := by rw [k p (by rw [d.ef]; simp)]; exact d.hp, hl := by rw [k l (by rw [d.ef]; simp)]; exact d.hl, hc := d.hc.mono s }⟩
  known := fun {Hs H v fp} ⟨p, l, c, kvs, cells, rest, turn, d⟩ a ha => by
    rw [d.ef] at ha
    have : a = p ∨ a = l := by simpa using ha
    rcases this with rfl | rfl
    · rw [d.hp]; exact fun z => by cases z
    · rw [d.hl]; exact fun z => by cases z
def drw : Ow where
  At := fun Hs H v fp => ∃ large, (drwN large).At Hs H v fp
  mono := fun ⟨large, h⟩ s k => ⟨large, (drwN large).mono h s k⟩
  known := fun ⟨large, h⟩ => (drwN large).known h
/-- an object changes its own parts alone -/
theorem EnvF.own {Hs Fr H H' : Hp} {σ : L2.St} {env : Env} {fp : Nat → List Addr} (r : EnvF Hs Fr H σ env fp) {i : Nat} {w w' : Ow} (hw : env[i]? = some (some (.o w))) {v0 : V} (hv : σ[i]? = some (some v0))
    (k : ∀ a, a ∉ fp i → H a ≠ none → H' a = H a) (h : w'.At Hs H' v0 (fp i)) : EnvF Hs Fr H' σ (env.set i (some (.o w'))) fp := by
  have hi : i < env.length := (List.getElem?_eq_some_iff.mp hw).1
  have back : ∀ (j : Nat) e, (env.set i (some (.o w')))[j]? = some (some e) → (j = i ∧ e = .o w') ∨ (j ≠ i ∧ env[j]? = some (some e)) := fun j e he => by
    by_cases z : j = i
    · subst z
      rw [List.getElem?_set_self hi] at he
      cases he
      exact .inl ⟨rfl, rfl⟩
    · rw [List.getElem?_set_ne (Ne.symm z)] at he
      exact .inr ⟨z, he⟩
  have old : ∀ (j : Nat) e, (env.set i (some (.o w')))[j]? = some (some e) → ∃ e', env[j]? = some (some e') := fun j e he => by
    rcases back j e he with ⟨rfl, _⟩ | ⟨_, z⟩
    · exact ⟨_, hw⟩
    · exact ⟨_, z⟩
  refine ⟨by simpa using r.len, fun j e he => ?_, fun j e he => ?_, fun j q e e' hjq h1 h2 => ?_⟩
  · rcases back j e he with ⟨rfl, rfl⟩ | ⟨z, he'⟩
    · exact ⟨v0, hv, h⟩
    · obtain ⟨u, h1, h2⟩ := r.at_ j e he'
      exact ⟨u, h1, En.mono h2 (Same.refl _) fun a ha => k a (fun q => r.dis j i e _ z he' hw a ha q) (En.known h2 a ha)⟩
  · obtain ⟨e', z⟩ := old j e he
    exact r.fr j e' z
  · obtain ⟨e1, z1⟩ := old j e h1
    obtain ⟨e2, z2⟩ := old q e' h2
    exact r.dis j q e1 e2 hjq z1 z2
theorem EnvF.val {Hs Fr H : Hp} {σ : L2.St} {env : Env} {fp : Nat → List Addr} (r : EnvF Hs Fr H σ env fp) {i : Nat} {w : Ow} (hw : env[i]? = some (some (.o w))) : ∃ v0, σ[i]? = some (some v0) ∧ w.At Hs H v0 (fp i) := r.at_ i _ hw
theorem set_self {env : Env} {i : Nat} {e : Option En} (h : env[i]? = some e) : env.set i e = env := by
  apply List.ext_getElem?
  intro j
  by_cases z : i = j
  · subst z
    rw [List.getElem?_set_self (List.getElem?_eq_some_iff.mp h).1, h]
  · rw [List.getElem?_set_ne z]
/-! reading it: numbers, the cells -/
def dKey (i : Nat) (x : Str) : DE := fun env C => env[i]? = some (some (.o drw)) ∧
  (((x = ("rest" : Str) ∨ x = ("turn" : Str)) ∧ ∀ n : Int, 0 ≤ n → C (.int n) env) ∨ (x = ("cells" : Str) ∧ ∀ ns : List Int, (∀ n ∈ ns, 0 ≤ n) → C (.lst (ns.map .int)) env))
instance {i : Nat} {x : Str} : AbsE (tDGet (tVar i) (tC (.str x))) (dKey i x) := ⟨fun σ Hs Fr H env Q C er sf fh h k => by
  obtain ⟨hw, h⟩ := h
  obtain ⟨fp, r⟩ := er
  obtain ⟨v0, hv, large, p, l, c, kvs, cells, rest, turn, d⟩ := r.val hw
  obtain rfl := d.ev
  refine ⟨_, hv, ?_⟩
  rcases h with ⟨rfl | rfl, h⟩ | ⟨rfl, h⟩
  · exact ⟨p, _, rfl, d.gr ▸ DGet.k (k := Sum.inr ("rest" : Str)) d.hp, k _ _ env Hs Fr H ⟨fp, r⟩ (Stp.refl _ _) sf fh (.int _) (h _ d.r0)⟩
  · exact ⟨p, _, rfl, d.gt ▸ DGet.k (k := Sum.inr ("turn" : Str)) d.hp, k _ _ env Hs Fr H ⟨fp, r⟩ (Stp.refl _ _) sf fh (.int _) (h _ d.t0)⟩
  · exact ⟨p, _, rfl, d.gc ▸ DGet.k (k := Sum.inr ("cells" : Str)) d.hp, k _ _ env Hs Fr H ⟨fp, r⟩ (Stp.refl _ _) sf fh d.hc (h _ d.c0)⟩⟩
theorem DrwAt.put {Hs H : Hp} {v : V} {fp : List Addr} {large : List Int} {p l c : Addr} {kvs : List (Key × V)} {cells : List Int} {rest turn : Int} (d : DrwAt Hs H v fp large p l c kvs cells rest turn) {x : Str} {n : Int} (hx : x = ("rest" : Str) ∨ x = ("turn" : Str)) (hn : 0 ≤ n) :
    ∃ rest' turn', DrwAt Hs (upd H p (.dK (putK kvs (Sum.inr x) (.int n)))) v fp large p l c (putK kvs (Sum.inr x) (.int n)) cells rest' turn' := by
  have u : ∃ u, valV kvs (Sum.inr x) = some u := by
    rcases hx with rfl | rfl
    · exact ⟨_, d.gr⟩
    · exact ⟨_, d.gt⟩
  obtain ⟨u, hu⟩ := u
  have len := length_put (.int n) hu
  have oth : ∀ y : Str, y ≠ x → valV (putK kvs (Sum.inr x) (.int n)) (Sum.inr y) = valV kvs (Sum.inr y) := fun y hy => by
    rw [valV_put, if_neg (fun z => hy (Sum.inr.inj z))]
  have own : valV (putK kvs (Sum.inr x) (.int n)) (Sum.inr x) = some (.int n) := by rw [valV_put, if_pos rfl]
  have n1 : ("large" : Str) ≠ x := by rcases hx with rfl | rfl <;> decide
  have n2 : ("cells" : Str) ≠ x := by rcases hx with rfl | rfl <;> decide
  have few : (putK kvs (Sum.inr x) (.int n)).length ≤ 4 := by rw [len]; exact d.few
  have hl : upd H p (.dK (putK kvs (Sum.inr x) (.int n))) l = some (.lst (large.map V.int)) := by rw [upd_ne (Ne.symm d.ne)]; exact d.hl
  have l1 := (oth _ n1).trans d.gl
  have c1 := (oth _ n2).trans d.gc
  rcases hx with rfl | rfl
  · exact ⟨n, turn, d.ev, d.ef, d.ne, upd_same, few, l1, c1, own, (oth _ (by decide)).trans d.gt, hl, d.hc, hn, d.t0, d.l0, d.c0⟩
  · exact ⟨rest, n, d.ev, d.ef, d.ne, upd_same, few, l1, c1, (oth _ (by decide)).trans d.gr, own, hl, d.hc, d.r0, hn, d.l0, d.c0⟩
def dPutO (i : Nat) (x : Str) (de : DE) : DS := fun env E => de env fun d env1 => keepE env env1 ∧ env1[i]? = some (some (.o drw)) ∧ (x = ("rest" : Str) ∨ x = ("turn" : Str)) ∧ ∃ n : Int, d = .int n ∧ 0 ≤ n ∧ E.nx env1
theorem kp_of {σ : L2.St} {env env' : Env} (h : keepE env env') : Kp σ env σ env' := fun i w hw => ⟨rfl, h i w hw⟩
instance {i : Nat} {x : Str} {te : TE} {de : DE} [ha : AbsE te de] : AbsS (sDPut (tVar i) (tC (.str x)) te) (dPutO i x de) := ⟨fun σ Hs Fr H env D E er sf fh h kn kr kb kc => by
  refine ha.run σ Hs Fr H env _ _ er sf fh h fun v d env1 Hs1 Fr1 H1 r1 s1 sf1 fh1 rv hc => ?_
  obtain ⟨ke, hw, hx, n, rfl, hn, hE⟩ := hc
  obtain ⟨fp, r⟩ := r1
  obtain ⟨v0, hv, large, p, l, c, kvs, cells, rest, turn, d⟩ := r.val hw
  obtain ⟨rest', turn', d'⟩ := d.put hx hn
  have ev := d.ev
  subst ev
  cases rv.int_inv
  have few := d.few
  refine ⟨_, hv, p, _, rfl, DPut.k (k := Sum.inr x) d.hp (szlt (by omega)), ?_⟩
  have hpf : Fr1 p = none := r.fr i _ hw p (by rw [d.ef]; simp)
  have r2 : EnvF Hs1 Fr1 (upd H1 p (.dK (putK kvs (Sum.inr x) (.int n)))) σ (env1.set i (some (.o drw))) fp := r.own hw hv (fun a ha _ => upd_ne (fun z => ha (by rw [d.ef, z]; simp))) ⟨large, p, l, c, _, cells, rest', turn', d'⟩
  rw [set_self hw] at r2
  exact kn σ env1 Hs1 Fr1 _ ⟨fp, r2⟩ s1 sf1 (same_upd fh1 hpf) (kp_of ke) hE⟩
end Lf
set_option Elab.async false
set_option linter.all false
set_option maxRecDepth 100000
set_option maxHeartbeats 4000000
namespace Lf
open PySem PySem.Spec PyProof.Rows L2 RZ
theorem EnvF.reown {Hs Fr H : Hp} {σ : L2.St} {env : Env} {fp : Nat → List Addr} (r : EnvF Hs Fr H σ env fp) {i : Nat} {w w' : Ow} (hw : env[i]? = some (some (.o w))) (h : ∀ v0, w.At Hs H v0 (fp i) → w'.At Hs H v0 (fp i)) : EnvF Hs Fr H σ (env.set i (some (.o w'))) fp := by
  obtain ⟨v0, hv, ha⟩ := r.val hw
  exact r.own hw hv (fun _ _ _ => rfl) (h v0 ha)
theorem rp_ints {H : Hp} {l : Addr} {ns : List Int} (h : H l = some (.lst (ns.map V.int))) : Rp H (.ref l) (.lst (ns.map .int)) := .lst h (by simp) fun i v d h1 h2 => by
  rw [List.getElem?_map] at h1 h2
  cases q : ns[i]? with
  | none => rw [q] at h1; cases h1
  | some n => rw [q] at h1 h2; cases h1; cases h2; exact .int _
/-- the loop that takes from the great numbers while there is no rest -/
def dDrain (i : Nat) (r l : Str) (z z2 : Int) : DS := fun env E => env[i]? = some (some (.o drw)) ∧ r = ("rest" : Str) ∧ l = ("large" : Str) ∧ z = 0 ∧ z2 = 0 ∧ E.nx env
theorem ix0 {n : Nat} : ixN (n + 1) 0 = some 0 := by
  unfold ixN
  simp
instance {K K2 K3 : PySem.W.Frag} {i : Nat} {r l : Str} {z z2 : Int} : AbsS (tWhile (tAnd (tTest (tOp (rEqD K2) (tDGet (tVar i) (tC (.str r))) (tC (.int z)))) (tTest (tOp (rNeD K3) (tDGet (tVar i) (tC (.str l))) (tLst tNil))))
    (sDPut (tVar i) (tC (.str r)) (tBM K "list" rPopAt (tDGet (tVar i) (tC (.str l))) (tCons (tC (.int z2)) tNil)))) (dDrain i r l z z2) := ⟨fun σ Hs Fr H env D E er sf fh h kn kr kb kc => by
  obtain ⟨hw, rfl, rfl, rfl, rfl, hE⟩ := h
  obtain ⟨fp, r0⟩ := er
  obtain ⟨v0, hv0, large0, ha0⟩ := r0.val hw
  have hi : i < env.length := (List.getElem?_eq_some_iff.mp hw).1
  refine ⟨fun m σ' H' => σ' = σ ∧ ∃ large, large.length = m ∧ Same Fr H' ∧ EnvF Hs Fr H' σ (env.set i (some (.o (drwN large)))) fp, ⟨_, rfl, large0, rfl, fh, r0.own hw hv0 (fun _ _ _ => rfl) ha0⟩, ?_⟩
  rintro m σ1 H1 ⟨rfl, large, rfl, fh1, r1⟩
  have hwN : ∀ lg, (env.set i (some (.o (drwN lg))))[i]? = some (some (.o (drwN lg))) := fun lg => List.getElem?_set_self hi
  obtain ⟨v1, hv1, p, lp, c, kvs, cells, rest, turn, d⟩ := r1.val (hwN large)
  have e0 := d.ev
  subst e0
  have few := d.few
  have fin : ∀ H2, Same Fr H2 → EnvF Hs Fr H2 σ1 (env.set i (some (.o (drwN large)))) fp → D.nx σ1 H2 := fun H2 fh2 r2 => by
    refine kn σ1 env Hs Fr H2 ⟨fp, ?_⟩ (Stp.refl _ _) sf fh2 (Kp.refl _ _) hE
    have r3 := r2.reown (hwN large) (w' := drw) fun v0 ha => ⟨large, ha⟩
    rw [List.set_set, set_self hw] at r3
    exact r3
  refine ⟨_, hv1, p, _, rfl, d.gr ▸ DGet.k (k := Sum.inr ("rest" : Str)) d.hp, .int rest, .int 0, .int _, .int _, rfl, rfl, _, rfl, ?_⟩
  by_cases hr : PyData.eqv (.int rest) (.int 0) = true
  · show if PyData.eqv (.int rest) (.int 0) = true then _ else _
    rw [if_pos hr]
    refine ⟨_, hv1, p, _, rfl, d.gl ▸ DGet.k (k := Sum.inr ("large" : Str)) d.hp, by show 0 ≤ sizeLine; decide, fun q hq => ?_⟩
    have nl : lp ≠ q := fun z => by have := d.hl; rw [z, hq] at this; cases this
    have np : p ≠ q := fun z => by have := d.hp; rw [z, hq] at this; cases this
    have fh2 : Same Fr (upd H1 q (.lst [])) := same_upd fh1 (none_of fh1 hq)
    have d2 : DrwAt Hs (upd H1 q (.lst [])) (.ref p) (fp i) large p lp c kvs cells rest turn := { d with hp := by rw [upd_ne np]; exact d.hp, hl := by rw [upd_ne nl]; exact d.hl }
    have k2 : ∀ a, a ∉ fp i → H1 a ≠ none → upd H1 q (.lst []) a = H1 a := fun a _ ha => upd_ne (fun z => ha (z ▸ hq))
    have rq : Rp (upd H1 q (.lst [])) (.ref q) (.lst []) := .lst upd_same rfl fun i v d h1 h2 => by simp at h2
    refine ⟨_, _, (rp_ints d2.hl).dp, rq.dp, (flat_lrow (r := large)).shp, (flat_lrow (r := [])).shp, _, rfl, ?_⟩
    show if (!dEq (.lst (large.map .int)) (.lst [])) = true then _ else _
    rw [dEq_nil]
    cases large with
    | nil =>
      simp only [List.map_nil, List.isEmpty_nil, Bool.not_true, Bool.false_eq_true, if_false]
      have r2 := r1.own (hwN []) hv1 (w' := drwN []) k2 ⟨p, lp, c, kvs, cells, rest, turn, d2⟩
      rw [List.set_set] at r2
      exact fin _ fh2 r2
    | cons x more =>
      simp only [List.map_cons, List.isEmpty_cons, Bool.not_false, if_true]
      have hx : 0 ≤ x := d.l0 x (by simp)
      have d3 : DrwAt Hs (upd (upd H1 q (.lst [])) lp (.lst (more.map V.int))) (.ref p) (fp i) more p lp c kvs cells rest turn :=
        { d2 with hp := by rw [upd_ne d.ne]; exact d2.hp, hl := upd_same, l0 := fun y hy => d.l0 y (by simp [hy]) }
      obtain ⟨rest', turn', d4⟩ := d3.put (x := "rest") (n := x) (.inl rfl) hx
      have hpf : Fr p = none := r0.fr i _ hw p (by rw [d.ef]; simp)
      have hlf : Fr lp = none := r0.fr i _ hw lp (by rw [d.ef]; simp)
      refine ⟨fun σ' H' => σ' = σ1 ∧ ∃ lg : List Int, lg.length = more.length ∧ Same Fr H' ∧ EnvF Hs Fr H' σ1 (env.set i (some (.o (drwN lg)))) fp, fun σ' H' h => ⟨more.length, by simp, h⟩, ?_⟩
      refine ⟨_, hv1, p, _, rfl, d.gl ▸ DGet.k (k := Sum.inr ("large" : Str)) d2.hp, (show tyV K "list" (.ref lp) _ from .inl ⟨rfl, _, SqL.of d2.hl⟩), ?_⟩
      refine ⟨lp, (x :: more).map V.int, 0, 0, .int x, rfl, rfl, d2.hl, by decide, by decide, (ixN_seq (by rw [List.length_map, List.length_cons]; exact ix0)).1, rfl, ?_⟩
      refine ⟨_, hv1, p, _, rfl, DPut.k (k := Sum.inr ("rest" : Str)) d3.hp (szlt (by omega)), rfl, more, rfl, same_upd (same_upd fh2 hlf) hpf, ?_⟩
      have r4 := r1.own (hwN (x :: more)) hv1 (w' := drwN more) (H' := upd (upd (upd H1 q (.lst [])) lp (.lst (more.map V.int))) p (.dK (putK kvs (Sum.inr ("rest" : Str)) (.int x)))) (fun a ha hn => by
        have a1 : a ≠ p := fun z => ha (by rw [d.ef, z]; simp)
        have a2 : a ≠ lp := fun z => ha (by rw [d.ef, z]; simp)
        rw [upd_ne a1, upd_ne a2]
        exact k2 a ha hn) ⟨p, lp, c, _, cells, rest', turn', d4⟩
      rw [List.set_set] at r4
      exact r4
  · show if PyData.eqv (.int rest) (.int 0) = true then _ else _
    rw [if_neg hr]
    show if false = true then _ else _
    rw [if_neg (by decide)]
    exact fin H1 fh1 r1⟩
end Lf
set_option Elab.async false
set_option linter.all false
set_option maxRecDepth 100000
set_option maxHeartbeats 4000000
namespace Lf
open PySem PySem.Spec PyProof.Rows L2 RZ
section
variable {X : Cx} {K : PySem.W.Frag} {st : Stmt} {b : List Stmt} {te : TE} {t : TS} {i j : Nat}
theorem ps_own (h : PS X st (tAsg te (gName i))) : PS X st (tAsgO te i) := h
theorem ps_appO (h : PS X st (tDrop (tBM K "list" rAppend (tVar i) (tCons te tNil)))) : PS X st (tAppO K i te) := h
theorem pss_frz (i : Nat) (h : PSs X b t) : PSs X b (tFrz i t) := h
/-- xs.append(ys.pop(e)) -/
def tAppPop (K K2 : PySem.W.Frag) (i j : Nat) (te : TE) : TS := tDrop (tBM K "list" rAppend (tVar i) (tCons (tBM K2 "list" rPopAt (tVar j) (tCons te tNil)) tNil))
theorem ps_appPop {K2 : PySem.W.Frag} (h : PS X st (tDrop (tBM K "list" rAppend (tVar i) (tCons (tBM K2 "list" rPopAt (tVar j) (tCons te tNil)) tNil)))) : PS X st (tAppPop K K2 i j te) := h
def tParO (i j : Nat) (t1 t2 : TE) : TS := tPar i j (tCons t1 (tCons t2 tNil))
theorem ps_parO {t1 t2 : TE} (h : PS X st (tPar i j (tCons t1 (tCons t2 tNil)))) : PS X st (tParO i j t1 t2) := h
def tNeNil (K : PySem.W.Frag) (i : Nat) : TT := tTest (tOp (rNeD K) (tVar i) (tLst tNil))
theorem pt_neNil {e : Expr} (h : PT X e (tTest (tOp (rNeD K) (tVar i) (tLst tNil)))) : PT X e (tNeNil K i) := h
end
theorem RpA.erase {H : Hp} {ws : List V} {xs : List D} (r : RpA H ws xs) (k : Nat) : RpA H (ws.eraseIdx k) (xs.eraseIdx k) := by
  refine ⟨by rw [List.length_eraseIdx, List.length_eraseIdx, r.1], fun i v d h1 h2 => ?_⟩
  rw [List.getElem?_eraseIdx] at h1 h2
  split at h1
  · next h => rw [if_pos h] at h2; exact r.2 _ _ _ h1 h2
  · next h => rw [if_neg h] at h2; exact r.2 _ _ _ h1 h2
/-- is the list of one's own in the slot i not empty -/
def dNeNil (i : Nat) : DT := fun env C => ∃ xs, env[i]? = some (some (.l xs)) ∧ (∃ n, flat n (.lst xs) ∧ n ≤ 64) ∧ C (!xs.isEmpty) env
instance {K : PySem.W.Frag} {i : Nat} : AbsT (tNeNil K i) (dNeNil i) := ⟨fun σ Hs Fr H env Q C er sf fh h k => by
  obtain ⟨xs, h0, ⟨n, hn, h64⟩, h⟩ := h
  obtain ⟨p, vs, hp, hl, ra, hf⟩ := er.own h0
  refine ⟨_, hp, by show 0 ≤ sizeLine; decide, fun q hq => ?_⟩
  have g := Gr.new sf fh hq (.lst [])
  have np : p ≠ q := fun z => by rw [z, hq] at hl; cases hl
  have nq : Hs q = none := none_of sf (none_of fh hq)
  have ss : Same Hs (upd Hs p (.lst vs)) := same_upd (Same.refl _) (none_of sf hf)
  have hh : Same (upd Hs p (.lst vs)) (upd H q (.lst [])) := fun a o ha => by
    by_cases z : a = p
    · rw [z, upd_same] at ha
      rw [z, upd_ne np, hl]; exact ha
    · rw [upd_ne z] at ha
      have h1 := fh a o (sf a o ha)
      rw [upd_ne (fun z2 => by rw [z2, hq] at h1; cases h1)]
      exact h1
  have r1 : Rp (upd H q (.lst [])) (.ref p) (.lst xs) := (Rp.lstA (H := upd Hs p (.lst vs)) upd_same (ra.mono ss)).mono hh
  have rq : Rp (upd H q (.lst [])) (.ref q) (.lst []) := .lst upd_same rfl fun i v d h1 h2 => by simp at h2
  refine ⟨_, _, r1.dp, rq.dp, hn.shp h64, (flat_lrow (r := [])).shp, _, rfl, ?_⟩
  have e : (!PyData.eqv (D.lst xs).toP (D.lst []).toP) = !xs.isEmpty := by
    show (!dEq (.lst xs) (.lst [])) = _
    rw [dEq_nil]
  rw [e]
  exact k _ env _ _ _ (er.gr g) g.st g.sf g.fh h⟩
def dAppPop (i j : Nat) (de : DE) : DS := fun env E => (∃ xs, env[i]? = some (some (.l xs))) ∧ (∃ xs, env[j]? = some (some (.l xs))) ∧ i ≠ j ∧ de env fun y env1 => keepE env env1 ∧ ∃ (k : Nat) (xs ys : List D) (z : D), y = .int k ∧
  env1[i]? = some (some (.l xs)) ∧ env1[j]? = some (some (.l ys)) ∧ ys[k]? = some z ∧ ys.length < 1000000 ∧ xs.length < 100000 ∧ E.nx ((env1.set j (some (.l (ys.eraseIdx k)))).set i (some (.l (xs ++ [z]))))
instance {K K2 : PySem.W.Frag} {i j : Nat} {te : TE} {de : DE} [he : AbsE te de] : AbsS (tAppPop K K2 i j te) (dAppPop i j de) := ⟨fun σ Hs Fr H env D E er sf fh h kn _ _ _ => by
  obtain ⟨⟨xs0, h0⟩, ⟨ys0, h0'⟩, nij, h⟩ := h
  obtain ⟨p, vs, hp, hl, ra, hf⟩ := er.own h0
  obtain ⟨q, us, hq, hlq, raq, hfq⟩ := er.own h0'
  refine ⟨.ref p, hp, Or.inl ⟨rfl, vs, SqL.of hl⟩, .ref q, hq, Or.inl ⟨rfl, us, SqL.of hlq⟩, ?_⟩
  refine he.run σ Hs Fr H env _ _ er sf fh h fun y d env1 Hs1 Fr1 H1 r1 s1 sf1 fh1 ry h1 => ?_
  obtain ⟨ke, k, xs, ys, z, rfl, h2, h3, hz, hlt2, hlt, h1⟩ := h1
  obtain ⟨p', ws, hp', hl', ra', hf'⟩ := r1.own h2
  obtain ⟨q', ts, hq', hlq', raq', hfq'⟩ := r1.own h3
  rw [hp] at hp'; cases hp'
  rw [hq] at hq'; cases hq'
  cases ry.int_inv
  have hk : k < ys.length := (List.getElem?_eq_some_iff.mp hz).1
  obtain ⟨v, hv, rv⟩ := raq'.atD hz
  have sq := (ixN_seq (n := ts.length) (i := ((k : Nat) : Int)) (j := k) (by
    unfold ixN
    rw [if_pos (by omega), if_pos (by rw [raq'.1]; omega)]
    simp)).1
  refine ⟨q, ts, k, k, v, rfl, rfl, hlq', by omega, by omega, sq, hv, ?_⟩
  obtain ⟨fpf, rf⟩ := r1
  have r2 := rf.updL h3 hq (raq'.erase k)
  have h2' : (env1.set j (some (.l (ys.eraseIdx k))))[i]? = some (some (.l xs)) := by rw [List.getElem?_set_ne (Ne.symm nij)]; exact h2
  have npq : p ≠ q := fun e => by
    obtain ⟨v1, e1, q1, vs1, e2, e3, _⟩ := rf.at_ i _ h2
    obtain ⟨v2, f1, q2, vs2, f2, f3, _⟩ := rf.at_ j _ h3
    rw [hp] at e1; cases e1; cases e2
    rw [hq] at f1; cases f1; cases f2
    exact rf.dis i j _ _ nij h2 h3 p (by rw [e3]; simp) (by rw [f3, e]; simp)
  refine ⟨p, ws, v, rfl, rfl, by rw [upd_ne npq]; exact hl', by rw [ra'.1]; exact szlt hlt, ?_⟩
  have r3 := r2.updL h2' hp (ra'.snoc rv)
  exact kn σ _ Hs1 Fr1 _ ⟨fpf, r3⟩ s1 sf1 (same_updF (same_updF fh1 hfq') hf') (((Kp.ofE ke).trans (.setL _ h3)).trans (.setL _ h2')) h1⟩
theorem EnvF.heap {Hs Fr H H' : Hp} {σ : L2.St} {env : Env} {fp : Nat → List Addr} (r : EnvF Hs Fr H σ env fp) (s : Same H H') : EnvF Hs Fr H' σ env fp :=
  ⟨r.len, fun i e he => let ⟨v, h1, h2⟩ := r.at_ i e he; ⟨v, h1, En.mono h2 (Same.refl _) fun a ha => by
    cases q : H a with
    | none => exact absurd q (En.known h2 a ha)
    | some o => exact s a o q⟩, r.fr, r.dis⟩
/-- xs, ys = (.., []) -/
def dParO (i j : Nat) (dn : DA) : DS := fun env E => i ≠ j ∧ dn env fun xs env1 => keepE env env1 ∧ free env1 i = true ∧ free env1 j = true ∧ E.nx ((env1.set i (some (.l xs))).set j (some (.l [])))
instance {te : TE} {dn : DA} {i j : Nat} [he : AbsN te dn] : AbsS (tParO i j te (tLst tNil)) (dParO i j dn) := ⟨fun σ Hs Fr H env D E er sf fh h kn _ _ _ => by
  obtain ⟨nij, h⟩ := h
  refine he.run σ Hs Fr H env _ _ er sf fh h fun p vs ds env1 Hs1 Fr1 H1 Fe r1 s1 sf1 fe eh off fp1 ep ra hc => ?_
  obtain ⟨ke, f1, f2, h1⟩ := hc
  obtain ⟨fpf, rf⟩ := r1
  have nin := rf.not (.inl (ne_some ep))
  have rf' : EnvF Hs1 Fr1 H1 σ env1 fpf := ⟨rf.len, rf.at_, fun i e he a ha => by
    have hne : a ≠ p := fun z => nin i e he (z ▸ ha)
    rw [← off a hne]; exact rf.fr i e he a ha, rf.dis⟩
  have r2 := rf'.setL i (eh _ _ ep) ra fp1 nin
  refine ⟨by show 0 ≤ sizeLine; decide, fun q hq => ⟨.ref p, .ref q, rfl, ?_⟩⟩
  have hfq : Fr1 q = none := none_of (fe.trans eh) hq
  have r3 := r2.heap (H' := upd H1 q (.lst [])) (same_upd (Same.refl _) hq)
  have r4 := r3.setL (p := q) (vs := []) (xs := []) j upd_same .nil hfq fun k e hk hm => by
    obtain ⟨v, e1, e2⟩ := r2.at_ k e hk
    exact absurd hq (En.known e2 q hm)
  have f2' : free (env1.set i (some (.l ds))) j = true := by
    unfold free
    rw [List.getElem?_set_ne nij]
    exact f2
  exact kn _ _ Hs1 Fr1 _ ⟨_, r4⟩ s1 sf1 (same_upd (fe.trans eh) hfq) ((Kp.ofE ke).trans ((Kp.set _ _ f1).trans (Kp.set _ _ f2'))) h1⟩
def dNewL (da : DA) : DA := fun env C => da env fun xs env1 => xs.length ≤ 100000 ∧ C xs env1
def dNewOf (da : DA) : DA := fun env C => da env fun as env1 => ∃ a xs, as = [a] ∧ a.items? = some xs ∧ C xs env1
section
variable {env : Env} {da : DA} {xs : List D} {E : DEnds} {i j : Nat} {s : DS} {a : DE}
theorem ea_newL (h : EvA da env xs) (l : xs.length ≤ 100000) : EvA (dNewL da) env xs := fun C k => h _ fun _ e => by subst e; exact ⟨l, k _ rfl⟩
theorem ea_newOf {x : D} (h : EvA da env [x]) (e : x.items? = some xs) : EvA (dNewOf da) env xs := fun C k => h _ fun _ e2 => ⟨x, xs, e2, e, k _ rfl⟩
theorem st_asgO {T : List D → Prop} (h : Ea da env T) (f : free env i = true) (k : ∀ xs, T xs → E.nx (env.set i (some (.l xs)))) : dAsgO da i env E := h _ fun xs hx => ⟨keepE_refl, f, k xs hx⟩
theorem st_parO (h : EvA da env xs) (n : i ≠ j) (f1 : free env i = true) (f2 : free env j = true) (k : E.nx ((env.set i (some (.l xs))).set j (some (.l [])))) : dParO i j da env E := ⟨n, h _ fun _ e => by subst e; exact ⟨keepE_refl, f1, f2, k⟩⟩
theorem et_neNil {n : Nat} (h : env[i]? = some (some (.l xs))) (f : flat n (.lst xs)) (l : n ≤ 64 := by decide) : EvT (dNeNil i) env (!xs.isEmpty) := fun C k => ⟨xs, h, ⟨n, f, l⟩, k _ rfl⟩
theorem st_frz (h : env[i]? = some (some (.l xs))) (k : s (env.set i (some (.d (.lst xs)))) E) : dFrz i s env E := ⟨xs, h, k⟩
theorem st_app {S : D → Prop} (hx : env[i]? = some (some (.l xs))) (h : Es a env S) (l : xs.length < 100000) (k : ∀ d, S d → E.nx (env.set i (some (.l (xs ++ [d]))))) : dAppO i a env E := ⟨⟨xs, hx⟩, h _ fun d hd => ⟨keepE_refl, xs, hx, l, k d hd⟩⟩
theorem st_appPop {ys : List D} {S : D → Prop} (hx : env[i]? = some (some (.l xs))) (hy : env[j]? = some (some (.l ys))) (n : i ≠ j) (h : Es a env S) (l1 : ys.length < 1000000) (l2 : xs.length < 100000)
    (k : ∀ d, S d → ∃ (m : Nat) (z : D), d = .int m ∧ ys[m]? = some z ∧ E.nx ((env.set j (some (.l (ys.eraseIdx m)))).set i (some (.l (xs ++ [z]))))) : dAppPop i j a env E :=
  ⟨⟨xs, hx⟩, ⟨ys, hy⟩, n, h _ fun d hd => let ⟨m, z, e, hz, q⟩ := k d hd; ⟨keepE_refl, m, xs, ys, z, e, hx, hy, hz, l1, l2, q⟩⟩
end
/-- len of a list of one's own -/
def tLenO (K : PySem.W.Frag) (i : Nat) : TE := tCB (rLenQ K) (tCons (tVar i) tNil)
theorem pe_lenO {X : Cx} {K : PySem.W.Frag} {e : Expr} {i : Nat} (h : PE X e (tCB (rLenQ K) (tCons (tVar i) tNil))) : PE X e (tLenO K i) := h
def dLenO (i : Nat) : DE := fun env C => ∃ xs, env[i]? = some (some (.l xs)) ∧ C (.int xs.length) env
instance {K : PySem.W.Frag} {i : Nat} : AbsE (tLenO K i) (dLenO i) := ⟨fun σ Hs Fr H env Q C er sf fh h k => by
  obtain ⟨xs, h0, h⟩ := h
  obtain ⟨p, vs, hp, hl, ra, hf⟩ := er.own h0
  refine ⟨_, hp, ?_⟩
  refine ⟨p, vs, rfl, .inl (SqL.of hl), ?_⟩
  rw [ra.1]
  exact k _ _ env Hs Fr H er (Stp.refl _ _) sf fh (.int _) h⟩
theorem ev_lenO {env : Env} {xs : List D} {i : Nat} (h : env[i]? = some (some (.l xs))) : Ev (dLenO i) env (.int xs.length) := fun C k => ⟨xs, h, k _ rfl⟩
end Lf
set_option Elab.async false
set_option linter.all false
set_option maxRecDepth 100000
set_option maxHeartbeats 4000000
/-! Instances that are read alone: their methods -/
namespace Lf
open PySem PySem.Spec PyProof.Rows L2 RZ
abbrev Flds := List (Str × D)
def RecAt (H : Hp) (C : Addr) (v : V) (fs : Flds) : Prop := ∃ p dx fsV, v = .ref p ∧ H p = some (.ins C dx fsV) ∧ (∀ f, fs.lookup f = none → fsV.lookup f = none) ∧ ∀ f d, fs.lookup f = some d → ∃ u, fsV.lookup f = some u ∧ Rp H u d
theorem RecAt.mono {H H' : Hp} {C : Addr} {v : V} {fs : Flds} (r : RecAt H C v fs) (s : Same H H') : RecAt H' C v fs := by
  obtain ⟨p, dx, fsV, h1, h2, h3, h4⟩ := r
  exact ⟨p, dx, fsV, h1, s _ _ h2, h3, fun f d hf => let ⟨u, e1, e2⟩ := h4 f d hf; ⟨u, e1, e2.mono s⟩⟩
def recO (C : Addr) (fs : Flds) : Ow where
  At := fun Hs _ v fp => fp = [] ∧ RecAt Hs C v fs
  mono := fun ⟨h1, h2⟩ s _ => ⟨h1, h2.mono s⟩
  known := fun ⟨h1, _⟩ a ha => by rw [h1] at ha; simp at ha
/-- an object that can be read as an instance with these fields -/
def AsRec (w : Ow) (C : Addr) (fs : Flds) : Prop := ∀ (Hs H : Hp) (v : V) (fp : List Addr), Same Hs H → w.At Hs H v fp → RecAt H C v fs
theorem asRec_rec {C : Addr} {fs : Flds} : AsRec (recO C fs) C fs := fun Hs H v fp s h => h.2.mono s
/-- e.f, by the class's facts -/
def tFldC (C : Addr) (ta : TE) (f : Str) : TE := fun σ H Q => ta σ H fun x H1 => ∃ a dx fs v, x = .ref a ∧ H1 a = some (.ins C dx fs) ∧ fs.lookup f = some v ∧ Q v H1
theorem pe_fldC {X : Cx} {e : Expr} {f : Str} {pos : Pos} {ta : TE} {C : Addr} (c : Cls X.K C) (n : NoAttr X.K C f) (he : PE X e ta) (hb : attributeBase e f X.env (eval e X.env) = eval e X.env := by rfl) : PE X (.Attribute e f pos) (tFldC C ta f) := by
  refine ⟨fun pins s σ H Q I h0 => attr_of hb (thn (he.run pins s σ H _ I h0) fun u t ⟨x, H1, J, rx, a, dx, fs, v, ex, ea, l, q⟩ => ?_)⟩
  subst ex ; obtain rfl : u = Value.ref a := rx
  exact getattr_ok J ea c n l fun u' s2 I2 ru => ⟨v, H1, I2, ru, q⟩
def dFld (C : Addr) (i : Nat) (f : Str) : DE := fun env K => ∃ fs d, env[i]? = some (some (.o (recO C fs))) ∧ fs.lookup f = some d ∧ K d env
instance {C : Addr} {i : Nat} {f : Str} : AbsE (tFldC C (tVar i) f) (dFld C i f) := ⟨fun σ Hs Fr H env Q K er sf fh h k => by
  obtain ⟨fs, d, hw, hl, h⟩ := h
  obtain ⟨fp, r⟩ := er
  obtain ⟨v0, hv, _, p, dx, fsV, h1, h2, h3, h4⟩ := r.val hw
  obtain ⟨u, e1, e2⟩ := h4 f d hl
  subst h1
  exact ⟨_, hv, p, dx, fsV, u, rfl, (sf.trans fh) _ _ h2, e1, k u d env Hs Fr H ⟨fp, r⟩ (Stp.refl _ _) sf fh e2 h⟩⟩
theorem ev_fld {C : Addr} {env : Env} {i : Nat} {f : Str} {fs : Flds} {d : D} (h : env[i]? = some (some (.o (recO C fs)))) (e : fs.lookup f = some d) : Ev (dFld C i f) env d := fun K k => ⟨fs, d, h, e, k d rfl⟩
/-! promises of those that read alone -/
def imm : D → Prop
  | .lst _ => False
  | .tup _ => False
  | _ => True
/-- a plain value, or a new list of ints -/
def VRes (H H' : Hp) (v : V) (d : D) : Prop := (imm d ∧ Rp H' v d) ∨ ∃ (q : Addr) (ns : List Int), v = .ref q ∧ H q = none ∧ d = .lst (ns.map D.int) ∧ H' q = some (.lst (ns.map V.int))
abbrev VW := Flds → List D → (D → Prop) → Prop
def VSp (C : Addr) (n : Nat) (vw : VW) : Sp := fun vs H Q _ => vs.length = n ∧ ∃ v0 vs' fs ds K, vs = v0 :: vs' ∧ RecAt H C v0 fs ∧ RpA H vs' ds ∧ vw fs ds K ∧ ∀ v d H', Same H H' → VRes H H' v d → K d → Q v H'
theorem VSp.len {C : Addr} {n : Nat} {vw : VW} {vs : List V} {H : Hp} {Q : VK} {E : XK} (h : VSp C n vw vs H Q E) : vs.length = n := h.1
/-- a result, as data -/
theorem VRes.data {Hs Fr H H' : Hp} {v : V} {d : D} {σ : L2.St} {env : Env} (r : VRes H H' v d) (er : EnvR Hs Fr H σ env) (sf : Same Hs Fr) (fh : Same Fr H) (s : Same H H') :
    ∃ Hs' Fr', EnvR Hs' Fr' H' σ env ∧ Stp Hs Fr Hs' Fr' ∧ Same Hs' Fr' ∧ Same Fr' H' ∧ Rp Hs' v d := by
  obtain ⟨fp, rf⟩ := er
  rcases r with ⟨hi, rv⟩ | ⟨q, ns, rfl, hq, rfl, hq'⟩
  · refine ⟨Hs, Fr, ⟨fp, rf.heap s⟩, Stp.refl _ _, sf, fh.trans s, ?_⟩
    cases rv with
    | non => exact .non
    | bl b => exact .bl b
    | int i => exact .int i
    | str x => exact .str x
    | lst _ _ _ => exact hi.elim
    | tup _ _ _ => exact hi.elim
  · have hf : Fr q = none := none_of fh hq
    have hs : Hs q = none := none_of sf hf
    have ss : Same Hs (upd Hs q (.lst (ns.map V.int))) := same_upd (Same.refl _) hs
    have nin := rf.not (.inr hq)
    refine ⟨upd Hs q (.lst (ns.map V.int)), upd Fr q (.lst (ns.map V.int)), ⟨fp, (rf.heap s).frz ss nin (fun a _ => rfl) fun a ha h => by rw [upd_ne ha]; exact h⟩, ⟨ss, same_upd (Same.refl _) hf, fun a h1 h2 => ?_⟩, same_upd2 sf, fun a o ha => ?_, rp_ints upd_same⟩
    · have : a ≠ q := fun z => h1 (z ▸ hf)
      rw [upd_ne this]; exact h2
    · by_cases z : a = q
      · rw [z, upd_same] at ha
        rw [z, hq']; exact ha
      · rw [upd_ne z] at ha
        exact s a o (fh a o ha)
/-- a method of the object in the slot i, that reads alone -/
def tMethV (C : Addr) (m : Str) (sp : Sp) (i : Nat) (t : TA) : TE := tMeth C m sp [] E0 (tVar i) t
theorem pe_methV {X : Cx} {e : Expr} {C : Addr} {m : Str} {sp : Sp} {i : Nat} {t : TA} (h : PE X e (tMeth C m sp [] E0 (tVar i) t)) : PE X e (tMethV C m sp i t) := h
def dMethV (C : Addr) (m : Str) (n : Nat) (vw : VW) (i : Nat) (da : DA) : DE := fun env K => ∃ w fs, env[i]? = some (some (.o w)) ∧ AsRec w C fs ∧ fs.lookup m = none ∧ da env fun ds env1 => env1[i]? = some (some (.o w)) ∧ ds.length + 1 = n ∧ vw fs ds fun d => K d env1
instance {C : Addr} {m : Str} {n : Nat} {vw : VW} {i : Nat} {t : TA} {da : DA} [ha : AbsA t da] : AbsE (tMethV C m (VSp C n vw) i t) (dMethV C m n vw i da) := ⟨fun σ Hs Fr H env Q K er sf fh h k => by
  obtain ⟨w, fs, hw, as, hl, h⟩ := h
  have er0 := er
  obtain ⟨fp, r⟩ := er
  obtain ⟨v0, hv, at0⟩ := r.val hw
  obtain ⟨p, dx, fsV, h1, h2, h3, h4⟩ := as Hs H v0 _ (sf.trans fh) at0
  subst h1
  refine ⟨_, hv, p, dx, fsV, rfl, h2, h3 m hl, ?_⟩
  refine ha.run σ Hs Fr H env _ _ er0 sf fh h fun vs ds env1 Hs1 Fr1 H1 r1 s1 sf1 fh1 ra hc => ?_
  obtain ⟨hw1, hn, hv1⟩ := hc
  have r1' := r1
  obtain ⟨fp1, rf⟩ := r1
  obtain ⟨v1, hv1', at1⟩ := rf.val hw1
  rw [hv] at hv1'
  cases hv1'
  refine ⟨by simp [ra.1]; exact hn, .ref p, vs, fs, ds, _, by simp, as Hs1 H1 _ _ (sf1.trans fh1) at1, ra.mono (sf1.trans fh1), hv1, fun v d H' s res c => ?_⟩
  obtain ⟨Hs', Fr', r', st', sf', fh', rv⟩ := res.data r1' sf1 fh1 s
  exact k v d env1 Hs' Fr' H' r' (s1.trans st') sf' fh' rv c⟩
/-- a def whose first argument is the object in the slot i, that reads alone -/
def tCallV (sp : Sp) (i : Nat) (t : TA) : TE := tCall sp [] E0 (tCons (tVar i) t)
theorem pe_callV {X : Cx} {e : Expr} {sp : Sp} {i : Nat} {t : TA} (h : PE X e (tCall sp [] E0 (tCons (tVar i) t))) : PE X e (tCallV sp i t) := h
def dCallV (C : Addr) (n : Nat) (vw : VW) (i : Nat) (da : DA) : DE := fun env K => ∃ w fs, env[i]? = some (some (.o w)) ∧ AsRec w C fs ∧ da env fun ds env1 => env1[i]? = some (some (.o w)) ∧ ds.length + 1 = n ∧ vw fs ds fun d => K d env1
instance {C : Addr} {n : Nat} {vw : VW} {i : Nat} {t : TA} {da : DA} [ha : AbsA t da] : AbsE (tCallV (VSp C n vw) i t) (dCallV C n vw i da) := ⟨fun σ Hs Fr H env Q K er sf fh h k => by
  obtain ⟨w, fs, hw, as, h⟩ := h
  have er0 := er
  obtain ⟨fp, r⟩ := er
  obtain ⟨v0, hv, at0⟩ := r.val hw
  refine ⟨v0, hv, ?_⟩
  refine ha.run σ Hs Fr H env _ _ er0 sf fh h fun vs ds env1 Hs1 Fr1 H1 r1 s1 sf1 fh1 ra hc => ?_
  obtain ⟨hw1, hn, hv1⟩ := hc
  have r1' := r1
  obtain ⟨fp1, rf⟩ := r1
  obtain ⟨v1, hv1', at1⟩ := rf.val hw1
  rw [hv] at hv1'
  cases hv1'
  refine ⟨by simp [ra.1]; exact hn, v0, vs, fs, ds, _, by simp, as Hs1 H1 _ _ (sf1.trans fh1) at1, ra.mono (sf1.trans fh1), hv1, fun v d H' s res c => ?_⟩
  obtain ⟨Hs', Fr', r', st', sf', fh', rv⟩ := res.data r1' sf1 fh1 s
  exact k v d env1 Hs' Fr' H' r' (s1.trans st') sf' fh' rv c⟩
section
variable {C : Addr} {env : Env} {i n : Nat} {vw : VW} {da : DA} {ds : List D} {w : Ow} {fs : Flds} {S : D → Prop} {m : Str}
theorem es_methV (hw : env[i]? = some (some (.o w))) (as : AsRec w C fs) (hm : fs.lookup m = none) (h : EvA da env ds) (l : ds.length + 1 = n) (k : ∀ K : D → Prop, (∀ d, S d → K d) → vw fs ds K) : Es (dMethV C m n vw i da) env S := fun K q =>
  ⟨w, fs, hw, as, hm, h _ fun _ e => by subst e; exact ⟨hw, l, k _ fun d hd => q d hd⟩⟩
theorem es_callV (hw : env[i]? = some (some (.o w))) (as : AsRec w C fs) (h : EvA da env ds) (l : ds.length + 1 = n) (k : ∀ K : D → Prop, (∀ d, S d → K d) → vw fs ds K) : Es (dCallV C n vw i da) env S := fun K q =>
  ⟨w, fs, hw, as, h _ fun _ e => by subst e; exact ⟨hw, l, k _ fun d hd => q d hd⟩⟩
end
/-! bodies -/
theorem rec_env {C : Addr} {H : Hp} {v0 : V} {fs : Flds} {vs : List V} {as : List D} (k : Nat) (r : RecAt H C v0 fs) (ra : RpA H vs as) : EnvF H H H (some v0 :: (vs.map some ++ List.replicate k none)) (some (.o (recO C fs)) :: env0 k as) (fun _ => []) := by
  have r1 := envR_start (Hs := H) (Fr := H) (H := H) k ra
  refine ⟨by simpa using r1.len, fun i e he => ?_, fun i e he a ha => by simp at ha, fun i j e e' _ _ _ a ha => by simp at ha⟩
  cases i with
  | zero =>
    cases he
    exact ⟨v0, rfl, rfl, r⟩
  | succ i =>
    obtain ⟨v, h1, h2⟩ := r1.at_ i e (by simpa using he)
    exact ⟨v, by simpa using h1, by simpa using h2⟩
theorem start_cons {N : List Str} {v0 : V} {vs : List V} {n : Nat} (hl : (v0 :: vs).length = n) : start N (v0 :: vs) = some v0 :: (vs.map some ++ List.replicate (N.length - n) none) := by
  rw [start_eq, hl]; rfl
theorem vs_body {C : Addr} {n : Nat} {vw : VW} {N : List Str} {t : TS} {dS : DS} {vs : List V} {H : Hp} {Q : VK} {E : XK} (h : VSp C n vw vs H Q E) (ha : AbsS t dS)
    (body : ∀ fs as K, as.length + 1 = n → vw fs as K → dS (some (.o (recO C fs)) :: env0 (N.length - n) as) { nx := fun _ => K .non, rt := fun d _ => imm d ∧ K d }) : t { nx := fun _ H' => Q .non H', rt := Q } (start N vs) H := by
  obtain ⟨hl, v0, vs', fs, as, K, rfl, r, ra, hw, hK⟩ := h
  have e : as.length + 1 = n := by rw [← ra.1]; simpa using hl
  rw [start_cons hl]
  refine ha.run _ H H H _ _ _ ⟨_, rec_env _ r ra⟩ (Same.refl _) (Same.refl _) (body fs as K e hw) ?_ ?_ ?_ ?_
  · exact fun σ' env' Hs' Fr' H' r' s' sf' fh' k' c => hK .non .non H' (s'.f.trans fh') (.inl ⟨trivial, .non⟩) c
  · exact fun v d σ' env' Hs' Fr' H' r' s' sf' fh' k' rv c => hK v d H' (s'.f.trans fh') (.inl ⟨c.1, rv.mono (sf'.trans fh')⟩) c.2
  · exact fun σ' env' Hs' Fr' H' r' s' sf' fh' k' c => c.elim
  · exact fun σ' env' Hs' Fr' H' r' s' sf' fh' k' c => c.elim
theorem ints_of {H : Hp} {vs : List V} {ns : List Int} (r : RpA H vs (ns.map .int)) : vs = ns.map V.int := by
  apply List.ext_getElem?
  intro i
  rw [List.getElem?_map]
  cases q : ns[i]? with
  | none =>
    have l := r.1
    rw [List.length_map] at l
    have := List.getElem?_eq_none_iff.mp q
    rw [List.getElem?_eq_none (by omega)]; rfl
  | some n =>
    obtain ⟨v, hv, rv⟩ := r.atD (i := i) (d := .int n) (by rw [List.getElem?_map, q]; rfl)
    rw [hv, rv.int_inv]; rfl
/-- a def of one return of a new list -/
theorem ls_body {C : Addr} {n : Nat} {vw : VW} {N : List Str} {te : TE} {dn : DA} {vs : List V} {H : Hp} {Q : VK} {E : XK} (h : VSp C n vw vs H Q E) (ha : AbsN te dn)
    (body : ∀ fs as K, as.length + 1 = n → vw fs as K → dn (some (.o (recO C fs)) :: env0 (N.length - n) as) fun xs _ => ∃ ns : List Int, xs = ns.map .int ∧ K (.lst (ns.map .int))) : tRet te { nx := fun _ H' => Q .non H', rt := Q } (start N vs) H := by
  obtain ⟨hl, v0, vs', fs, as, K, rfl, r, ra, hw, hK⟩ := h
  have e : as.length + 1 = n := by rw [← ra.1]; simpa using hl
  rw [start_cons hl]
  refine ha.run _ H H H _ _ _ ⟨_, rec_env _ r ra⟩ (Same.refl _) (Same.refl _) (body fs as K e hw) fun p ws ds env' Hs' Fr' H' Fe r1 s1 sf1 fe eh off fp1 ep rw1 hc => ?_
  obtain ⟨ns, rfl, c⟩ := hc
  rw [ints_of rw1] at ep
  exact hK _ _ H' ((s1.f.trans fe).trans eh) (.inr ⟨p, ns, rfl, none_of s1.f fp1, rfl, eh _ _ ep⟩) c
/-- a def that returns its own list in the slot i behind the rest -/
theorem ls_body2 {C : Addr} {n : Nat} {vw : VW} {N : List Str} {t : TS} {dS : DS} {i : Nat} {vs : List V} {H : Hp} {Q : VK} {E : XK} (h : VSp C n vw vs H Q E) (ha : AbsS t dS)
    (body : ∀ fs as K, as.length + 1 = n → vw fs as K → dS (some (.o (recO C fs)) :: env0 (N.length - n) as) { nx := fun env' => ∃ ns : List Int, env'[i]? = some (some (.l (ns.map .int))) ∧ K (.lst (ns.map .int)), rt := fun _ _ => False }) :
    tSeq t (tRet (tVar i)) { nx := fun _ H' => Q .non H', rt := Q } (start N vs) H := by
  obtain ⟨hl, v0, vs', fs, as, K, rfl, r, ra, hw, hK⟩ := h
  have e : as.length + 1 = n := by rw [← ra.1]; simpa using hl
  rw [start_cons hl]
  refine ha.run _ H H H _ _ _ ⟨_, rec_env _ r ra⟩ (Same.refl _) (Same.refl _) (body fs as K e hw) ?_ ?_ ?_ ?_
  · rintro σ' env' Hs' Fr' H' r' s' sf' fh' k' ⟨ns, he, c⟩
    obtain ⟨q, ws, h1, h2, h3, h4⟩ := r'.own he
    rw [ints_of h3] at h2
    exact ⟨_, h1, hK _ _ H' (s'.f.trans fh') (.inr ⟨q, ns, rfl, none_of s'.f h4, rfl, h2⟩) c⟩
  · exact fun v d σ' env' Hs' Fr' H' r' s' sf' fh' k' rv c => c.elim
  · exact fun σ' env' Hs' Fr' H' r' s' sf' fh' k' c => c.elim
  · exact fun σ' env' Hs' Fr' H' r' s' sf' fh' k' c => c.elim
end Lf
set_option Elab.async false
set_option linter.all false
set_option maxRecDepth 100000
set_option maxHeartbeats 4000000
/-! The basis of the search, as an object of one's own -/
namespace Lf
open PySem PySem.Spec PyProof.Rows L2 RZ
structure BSt where
  scale : Int
  levels : List Int
  members : List (Option Nat)
  inverse : List (List Int)
def memD : Option Nat → D
  | none => .non
  | some j => .int (j : Nat)
def memV : Option Nat → V
  | none => .non
  | some j => .int (j : Nat)
def rowL (r : List Int) : D := .lst (r.map .int)
def BSt.flds (st : BSt) : Flds := [(("scale" : Str), .int st.scale), (("levels" : Str), .lst (st.levels.map .int)), (("members" : Str), .lst (st.members.map memD)), (("inverse" : Str), .lst (st.inverse.map rowL))]
structure BasAt (Hs H : Hp) (C : Addr) (st : BSt) (v : V) (fp : List Addr) (p dx l1 l2 l3 : Addr) (fsV : List (Str × V)) (rows : List V) : Prop where
  ev : v = .ref p
  ef : fp = [p, dx, l1, l2, l3]
  n12 : l1 ≠ l2
  n13 : l1 ≠ l3
  n23 : l2 ≠ l3
  hp : H p = some (.ins C dx fsV)
  hd : H dx = some (.own p)
  few : fsV.length < 1000
  g0 : fsV.lookup ("scale" : Str) = some (.int st.scale)
  g1 : fsV.lookup ("levels" : Str) = some (.ref l1)
  g2 : fsV.lookup ("members" : Str) = some (.ref l2)
  g3 : fsV.lookup ("inverse" : Str) = some (.ref l3)
  gn : ∀ f, st.flds.lookup f = none → fsV.lookup f = none
  h1 : H l1 = some (.lst (st.levels.map V.int))
  h2 : H l2 = some (.lst (st.members.map memV))
  h3 : H l3 = some (.lst rows)
  hr : RpA Hs rows (st.inverse.map rowL)
def bas (C : Addr) (st : BSt) : Ow where
  At := fun Hs H v fp => ∃ p dx l1 l2 l3 fsV rows, BasAt Hs H C st v fp p dx l1 l2 l3 fsV rows
  mono := fun {Hs H Hs' H' v fp} ⟨p, dx, l1, l2, l3, fsV, rows, d⟩ s k =>
    ⟨p, dx, l1, l2, l3, fsV, rows, { d with
      hp := by rw [k p (by rw [d.ef]; simp)]; exact d.hp
      hd := by rw [k dx (by rw [d.ef]; simp)]; exact d.hd
      h1 := by rw [k l1 (by rw [d.ef]; simp)]; exact d.h1
      h2 := by rw [k l2 (by rw [d.ef]; simp)]; exact d.h2
      h3 := by rw [k l3 (by rw [d.ef]; simp)]; exact d.h3
      hr := d.hr.mono s }⟩
  known := fun {Hs H v fp} ⟨p, dx, l1, l2, l3, fsV, rows, d⟩ a ha => by
    rw [d.ef] at ha
    have : a = p ∨ a = dx ∨ a = l1 ∨ a = l2 ∨ a = l3 := by simpa using ha
    rcases this with rfl | rfl | rfl | rfl | rfl
    · exact ne_some d.hp
    · exact ne_some d.hd
    · exact ne_some d.h1
    · exact ne_some d.h2
    · exact ne_some d.h3
theorem rp_mems {H : Hp} {l : Addr} {ms : List (Option Nat)} (h : H l = some (.lst (ms.map memV))) : Rp H (.ref l) (.lst (ms.map memD)) := .lst h (by simp) fun i v d h1 h2 => by
  rw [List.getElem?_map] at h1 h2
  cases q : ms[i]? with
  | none => rw [q] at h1; cases h1
  | some m =>
    rw [q] at h1 h2; cases h1; cases h2
    cases m with
    | none => exact .non
    | some j => exact .int _
theorem flds_get (st : BSt) (f : Str) (d : D) (h : st.flds.lookup f = some d) : (f = ("scale" : Str) ∧ d = .int st.scale) ∨ (f = ("levels" : Str) ∧ d = .lst (st.levels.map .int)) ∨ (f = ("members" : Str) ∧ d = .lst (st.members.map memD)) ∨ (f = ("inverse" : Str) ∧ d = .lst (st.inverse.map rowL)) := by
  unfold BSt.flds at h
  simp only [List.lookup] at h
  split at h
  · next e => exact .inl ⟨by simpa using e, by simpa using h.symm⟩
  · split at h
    · next e => exact .inr (.inl ⟨by simpa using e, by simpa using h.symm⟩)
    · split at h
      · next e => exact .inr (.inr (.inl ⟨by simpa using e, by simpa using h.symm⟩))
      · split at h
        · next e => exact .inr (.inr (.inr ⟨by simpa using e, by simpa using h.symm⟩))
        · cases h
theorem asRec_bas {C : Addr} {st : BSt} : AsRec (bas C st) C st.flds := fun Hs H v fp s ⟨p, dx, l1, l2, l3, fsV, rows, d⟩ => by
  refine ⟨p, dx, fsV, d.ev, d.hp, d.gn, fun f x hx => ?_⟩
  rcases flds_get st f x hx with ⟨rfl, rfl⟩ | ⟨rfl, rfl⟩ | ⟨rfl, rfl⟩ | ⟨rfl, rfl⟩
  · exact ⟨_, d.g0, .int _⟩
  · exact ⟨_, d.g1, rp_ints d.h1⟩
  · exact ⟨_, d.g2, rp_mems d.h2⟩
  · exact ⟨_, d.g3, .lstA d.h3 (d.hr.mono s)⟩
/-! reading a part of it, while it is one's own -/
/-- o.f[x] -/
def tFldIx (K : PySem.W.Frag) (C : Addr) (i : Nat) (f : Str) (j : Nat) : TE := tOp (fun x y H Q => rIxL K x y H Q ∨ rIxT K x y H Q) (tFldC C (tVar i) f) (tVar j)
theorem pe_fldIx {X : Cx} {K : PySem.W.Frag} {e : Expr} {C : Addr} {i : Nat} {f : Str} {j : Nat} (h : PE X e (tOp (fun x y H Q => rIxL K x y H Q ∨ rIxT K x y H Q) (tFldC C (tVar i) f) (tVar j))) : PE X e (tFldIx K C i f j) := h
def dFldIx (C : Addr) (i : Nat) (f : Str) (j : Nat) : DE := fun env Q => ∃ st, env[i]? = some (some (.o (bas C st))) ∧ ∃ k : Nat, env[j]? = some (some (.d (.int k))) ∧
  ((f = ("levels" : Str) ∧ ∃ z, st.levels[k]? = some z ∧ Q (.int z) env) ∨ (f = ("inverse" : Str) ∧ ∃ r, st.inverse[k]? = some r ∧ Q (rowL r) env))
instance {K : PySem.W.Frag} {C : Addr} {i : Nat} {f : Str} {j : Nat} : AbsE (tFldIx K C i f j) (dFldIx C i f j) := ⟨fun σ Hs Fr H env Q Kk er sf fh h k => by
  obtain ⟨st, hw, n, hj, h⟩ := h
  have er0 := er
  obtain ⟨y, hy, ry⟩ := er.dat hj
  cases ry.int_inv
  obtain ⟨fp, r⟩ := er
  obtain ⟨v0, hv, p, dx, l1, l2, l3, fsV, rows, d⟩ := r.val hw
  have e0 := d.ev
  subst e0
  rcases h with ⟨rfl, z, hz, h⟩ | ⟨rfl, rw', hz, h⟩
  · exact ⟨_, hv, p, dx, fsV, _, rfl, d.hp, d.g1, _, hy, .inl ⟨l1, _, _, _, rfl, rfl, SqL.of d.h1, atI_nat (by rw [List.getElem?_map, hz]; rfl), k _ _ env Hs Fr H er0 (Stp.refl _ _) sf fh (.int z) h⟩⟩
  · obtain ⟨v, hv1, rv⟩ := d.hr.atD (i := n) (d := rowL rw') (by rw [List.getElem?_map, hz]; rfl)
    exact ⟨_, hv, p, dx, fsV, _, rfl, d.hp, d.g3, _, hy, .inl ⟨l3, _, _, _, rfl, rfl, SqL.of d.h3, atI_nat hv1, k _ _ env Hs Fr H er0 (Stp.refl _ _) sf fh rv h⟩⟩⟩
/-- o.scale -/
def tFldO (C : Addr) (i : Nat) (f : Str) : TE := tFldC C (tVar i) f
theorem pe_fldO {X : Cx} {e : Expr} {C : Addr} {i : Nat} {f : Str} (h : PE X e (tFldC C (tVar i) f)) : PE X e (tFldO C i f) := h
def dFldO (C : Addr) (i : Nat) (f : Str) : DE := fun env Q => ∃ st, env[i]? = some (some (.o (bas C st))) ∧ f = ("scale" : Str) ∧ Q (.int st.scale) env
instance {C : Addr} {i : Nat} {f : Str} : AbsE (tFldO C i f) (dFldO C i f) := ⟨fun σ Hs Fr H env Q Kk er sf fh h k => by
  obtain ⟨st, hw, rfl, h⟩ := h
  have er0 := er
  obtain ⟨fp, r⟩ := er
  obtain ⟨v0, hv, p, dx, l1, l2, l3, fsV, rows, d⟩ := r.val hw
  have e0 := d.ev
  subst e0
  exact ⟨_, hv, p, dx, fsV, _, rfl, d.hp, d.g0, k _ _ env Hs Fr H er0 (Stp.refl _ _) sf fh (.int _) h⟩⟩
/-! writing a part of it -/
theorem flds_none {st st2 : BSt} {f : Str} (h : st2.flds.lookup f = none) : st.flds.lookup f = none := by
  cases h' : st.flds.lookup f with
  | none => rfl
  | some d =>
    rcases flds_get st f d h' with ⟨rfl, _⟩ | ⟨rfl, _⟩ | ⟨rfl, _⟩ | ⟨rfl, _⟩ <;> cases h
theorem length_putF_same {f : Str} {u v : V} : ∀ {fs : List (Str × V)}, fs.lookup f = some u → (putF f v fs).length = fs.length
  | [], h => by cases h
  | (k, x) :: r, h => by
    by_cases e : k = f
    · subst e; simp [putF]
    · have e2 : (f == k) = false := by simpa using fun z => e z.symm
      have h2 : r.lookup f = some u := by
        rw [List.lookup_cons, e2] at h; exact h
      simp only [putF, e, if_false, List.length_cons, length_putF_same h2]
/-- o.f[x] = e -/
def tSetIx (C : Addr) (i : Nat) (f : Str) (j : Nat) (te : TE) : TS := tAsg te (gSub (tFldC C (tVar i) f) (tVar j) rSetL)
theorem ps_setIx {X : Cx} {st : Stmt} {C : Addr} {i : Nat} {f : Str} {j : Nat} {te : TE} (h : PS X st (tAsg te (gSub (tFldC C (tVar i) f) (tVar j) rSetL))) : PS X st (tSetIx C i f j te) := h
def dSetIx (C : Addr) (i : Nat) (f : Str) (j : Nat) (de : DE) : DS := fun env E => de env fun d env1 => keepE env env1 ∧ ∃ (st : BSt) (k : Nat), env1[i]? = some (some (.o (bas C st))) ∧ env1[j]? = some (some (.d (.int k))) ∧
  ((f = ("levels" : Str) ∧ k < st.levels.length ∧ ∃ z, d = .int z ∧ E.nx (env1.set i (some (.o (bas C { st with levels := st.levels.set k z }))))) ∨
   (f = ("members" : Str) ∧ k < st.members.length ∧ ∃ m, d = memD m ∧ E.nx (env1.set i (some (.o (bas C { st with members := st.members.set k m }))))) ∨
   (f = ("inverse" : Str) ∧ k < st.inverse.length ∧ ∃ r, d = rowL r ∧ E.nx (env1.set i (some (.o (bas C { st with inverse := st.inverse.set k r }))))))
theorem ixN_nat {n k : Nat} (h : k < n) : ixN n (k : Int) = some k := by
  unfold ixN
  rw [if_pos (by omega), if_pos (by omega)]
  simp
theorem memD_inv {H : Hp} {v : V} {m : Option Nat} (r : Rp H v (memD m)) : v = memV m := by
  cases m with
  | none => exact r.non_inv
  | some j => exact r.int_inv
theorem RpA.set {H : Hp} {ws : List V} {xs : List D} (r : RpA H ws xs) (k : Nat) {v : V} {d : D} (h : Rp H v d) : RpA H (ws.set k v) (xs.set k d) := by
  refine ⟨by simp [r.1], fun i u e h1 h2 => ?_⟩
  by_cases q : k = i
  · subst q
    have l := (List.getElem?_eq_some_iff.mp h1).1
    have l2 := (List.getElem?_eq_some_iff.mp h2).1
    rw [List.length_set] at l l2
    rw [List.getElem?_set_self l] at h1
    rw [List.getElem?_set_self l2] at h2
    cases h1; cases h2; exact h
  · rw [List.getElem?_set_ne q] at h1 h2
    exact r.2 _ _ _ h1 h2
instance {C : Addr} {i : Nat} {f : Str} {j : Nat} {te : TE} {de : DE} [ha : AbsE te de] : AbsS (tSetIx C i f j te) (dSetIx C i f j de) := ⟨fun σ Hs Fr H env D E er sf fh h kn kr kb kc => by
  refine ha.run σ Hs Fr H env _ _ er sf fh h fun v dd env1 Hs1 Fr1 H1 r1 s1 sf1 fh1 rv hc => ?_
  obtain ⟨ke, st, n, hw, hj, hc⟩ := hc
  obtain ⟨y, hy, ry⟩ := r1.dat hj
  cases ry.int_inv
  obtain ⟨fp, rf⟩ := r1
  obtain ⟨v0, hv, p, dx, l1, l2, l3, fsV, rows, d⟩ := rf.val hw
  have e0 := d.ev
  subst e0
  have kp : ∀ st2, Kp σ env σ (env1.set i (some (.o (bas C st2)))) := fun st2 q w hq => by
    obtain ⟨w2, h2⟩ := ke q w hq
    refine ⟨rfl, ?_⟩
    by_cases z : i = q
    · subst z
      exact ⟨_, List.getElem?_set_self (List.getElem?_eq_some_iff.mp hw).1⟩
    · exact ⟨w2, by rw [List.getElem?_set_ne z]; exact h2⟩
  have out : ∀ a, a ∈ fp i → Fr1 a = none := rf.fr i _ hw
  have fin : ∀ (l : Addr) (ob : HO) (st2 : BSt), l ∈ fp i → (bas C st2).At Hs1 (upd H1 l ob) (.ref p) (fp i) → E.nx (env1.set i (some (.o (bas C st2)))) → D.nx σ (upd H1 l ob) := fun l ob st2 hl hat hE =>
    kn σ _ Hs1 Fr1 _ ⟨fp, rf.own hw hv (fun a ha _ => upd_ne (fun z => ha (z ▸ hl))) hat⟩ s1 sf1 (same_updF fh1 (out l hl)) (kp st2) hE
  have n1p : l1 ≠ p := fun z => by have := d.h1; rw [z, d.hp] at this; cases this
  have n2p : l2 ≠ p := fun z => by have := d.h2; rw [z, d.hp] at this; cases this
  have n3p : l3 ≠ p := fun z => by have := d.h3; rw [z, d.hp] at this; cases this
  have n1d : l1 ≠ dx := fun z => by have := d.h1; rw [z, d.hd] at this; cases this
  have n2d : l2 ≠ dx := fun z => by have := d.h2; rw [z, d.hd] at this; cases this
  have n3d : l3 ≠ dx := fun z => by have := d.h3; rw [z, d.hd] at this; cases this
  rcases hc with ⟨rfl, hk, z, rfl, hE⟩ | ⟨rfl, hk, m, rfl, hE⟩ | ⟨rfl, hk, r, rfl, hE⟩
  · cases rv.int_inv
    refine ⟨_, hv, p, dx, fsV, _, rfl, d.hp, d.g1, _, hy, l1, _, _, n, rfl, rfl, d.h1, by rw [List.length_map]; exact ixN_nat hk, ?_⟩
    refine fin l1 _ _ (by rw [d.ef]; simp) ⟨p, dx, l1, l2, l3, fsV, rows, ?_⟩ hE
    exact { ev := rfl, ef := d.ef, n12 := d.n12, n13 := d.n13, n23 := d.n23, hp := by rw [upd_ne (Ne.symm n1p)]; exact d.hp, hd := by rw [upd_ne (Ne.symm n1d)]; exact d.hd, few := d.few, g0 := d.g0, g1 := d.g1, g2 := d.g2, g3 := d.g3, gn := fun f hf => d.gn f (flds_none hf), h1 := by rw [upd_same, List.map_set], h2 := by rw [upd_ne (Ne.symm d.n12)]; exact d.h2, h3 := by rw [upd_ne (Ne.symm d.n13)]; exact d.h3, hr := d.hr }
  · cases memD_inv rv
    refine ⟨_, hv, p, dx, fsV, _, rfl, d.hp, d.g2, _, hy, l2, _, _, n, rfl, rfl, d.h2, by rw [List.length_map]; exact ixN_nat hk, ?_⟩
    refine fin l2 _ _ (by rw [d.ef]; simp) ⟨p, dx, l1, l2, l3, fsV, rows, ?_⟩ hE
    exact { ev := rfl, ef := d.ef, n12 := d.n12, n13 := d.n13, n23 := d.n23, hp := by rw [upd_ne (Ne.symm n2p)]; exact d.hp, hd := by rw [upd_ne (Ne.symm n2d)]; exact d.hd, few := d.few, g0 := d.g0, g1 := d.g1, g2 := d.g2, g3 := d.g3, gn := fun f hf => d.gn f (flds_none hf), h1 := by rw [upd_ne d.n12]; exact d.h1, h2 := by rw [upd_same, List.map_set], h3 := by rw [upd_ne (Ne.symm d.n23)]; exact d.h3, hr := d.hr }
  · refine ⟨_, hv, p, dx, fsV, _, rfl, d.hp, d.g3, _, hy, l3, _, _, n, rfl, rfl, d.h3, by
      have := d.hr.1
      rw [List.length_map] at this
      rw [this]; exact ixN_nat hk, ?_⟩
    refine fin l3 _ _ (by rw [d.ef]; simp) ⟨p, dx, l1, l2, l3, fsV, rows.set n v, ?_⟩ hE
    exact { ev := rfl, ef := d.ef, n12 := d.n12, n13 := d.n13, n23 := d.n23, hp := by rw [upd_ne (Ne.symm n3p)]; exact d.hp, hd := by rw [upd_ne (Ne.symm n3d)]; exact d.hd, few := d.few, g0 := d.g0, g1 := d.g1, g2 := d.g2, g3 := d.g3, gn := fun f hf => d.gn f (flds_none hf), h1 := by rw [upd_ne d.n13]; exact d.h1, h2 := by rw [upd_ne d.n23]; exact d.h2, h3 := by rw [upd_same], hr := by rw [List.map_set]; exact d.hr.set n rv }⟩
/-- o.f = e -/
def tSetFld (C : Addr) (i : Nat) (f : Str) (te : TE) : TS := fun D σ H => te σ H fun y H1 => tVar i σ H1 fun x H2 => ∃ a dx fs, x = .ref a ∧ H2 a = some (.ins C dx fs) ∧ fs.length < 1000 ∧ D.nx σ (upd H2 a (.ins C dx (putF f y fs)))
theorem ps_fldC {X : Cx} {o value : Expr} {f : Str} {pos pos' : Pos} {C : Addr} {i : Nat} {te : TE} (c : Cls X.K C) (n : NoAttr X.K C f) (ho : PE X o (tVar i)) (hv : PE X value te) (hs : swapsWith value (some (.Attribute o f pos')) pos.line X.env = pure false := by rfl) :
    PS X (.Assign [.Attribute o f pos'] value pos) (tSetFld C i f te) := by
  refine ⟨fun pins s σ H D I h0 => plainObj_wpAny_Assign_Attribute (thn (hv.run pins s σ H _ I h0) fun u t ⟨y, H1, J, ry, q⟩ => thn (ho.run pins t σ H1 _ J q) fun ov t2 ⟨x, H2, J2, rx, a, dx, fs, ex, ea, l, q2⟩ => ?_) hs⟩
  subst ex ; obtain rfl : ov = Value.ref a := rx
  exact setattr_ok J2 ea c n l ry fun s3 I3 => ⟨σ, _, I3, q2⟩
def dSetFld (C : Addr) (i : Nat) (f : Str) (de : DE) : DS := fun env E => de env fun d env1 => keepE env env1 ∧ ∃ st, env1[i]? = some (some (.o (bas C st))) ∧ f = ("scale" : Str) ∧ ∃ z, d = .int z ∧ E.nx (env1.set i (some (.o (bas C { st with scale := z }))))
instance {C : Addr} {i : Nat} {f : Str} {te : TE} {de : DE} [ha : AbsE te de] : AbsS (tSetFld C i f te) (dSetFld C i f de) := ⟨fun σ Hs Fr H env D E er sf fh h kn kr kb kc => by
  refine ha.run σ Hs Fr H env _ _ er sf fh h fun v dd env1 Hs1 Fr1 H1 r1 s1 sf1 fh1 rv hc => ?_
  obtain ⟨ke, st, hw, rfl, z, rfl, hE⟩ := hc
  cases rv.int_inv
  obtain ⟨fp, rf⟩ := r1
  obtain ⟨v0, hv, p, dx, l1, l2, l3, fsV, rows, d⟩ := rf.val hw
  have e0 := d.ev
  subst e0
  have n1p : l1 ≠ p := fun z => by have := d.h1; rw [z, d.hp] at this; cases this
  have n2p : l2 ≠ p := fun z => by have := d.h2; rw [z, d.hp] at this; cases this
  have n3p : l3 ≠ p := fun z => by have := d.h3; rw [z, d.hp] at this; cases this
  have ndp : dx ≠ p := fun z => by have := d.hd; rw [z, d.hp] at this; cases this
  have kp : Kp σ env σ (env1.set i (some (.o (bas C { st with scale := z })))) := fun q w hq => by
    obtain ⟨w2, h2⟩ := ke q w hq
    refine ⟨rfl, ?_⟩
    by_cases z : i = q
    · subst z
      exact ⟨_, List.getElem?_set_self (List.getElem?_eq_some_iff.mp hw).1⟩
    · exact ⟨w2, by rw [List.getElem?_set_ne z]; exact h2⟩
  have hpf : Fr1 p = none := rf.fr i _ hw p (by rw [d.ef]; simp)
  refine ⟨_, hv, p, dx, fsV, rfl, d.hp, d.few, ?_⟩
  have oth : ∀ g : Str, g ≠ "scale" → (putF "scale" (.int z) fsV).lookup g = fsV.lookup g := fun g hg => by rw [lookup_putF, if_neg hg]
  refine kn σ _ Hs1 Fr1 _ ⟨fp, rf.own hw hv (w' := bas C { st with scale := z }) (fun a ha _ => upd_ne (fun z => ha (by rw [d.ef, z]; simp))) ⟨p, dx, l1, l2, l3, putF "scale" (.int z) fsV, rows, ?_⟩⟩ s1 sf1 (same_updF fh1 hpf) kp hE
  exact { ev := rfl, ef := d.ef, n12 := d.n12, n13 := d.n13, n23 := d.n23, hp := upd_same, hd := by rw [upd_ne ndp]; exact d.hd, few := by rw [length_putF_same d.g0]; exact d.few, g0 := by rw [lookup_putF, if_pos rfl], g1 := (oth _ (by decide)).trans d.g1, g2 := (oth _ (by decide)).trans d.g2, g3 := (oth _ (by decide)).trans d.g3,
          gn := fun g hg => by
            have hs : g ≠ "scale" := fun e => by rw [e] at hg; cases hg
            rw [oth g hs]
            exact d.gn g (flds_none hg)
          h1 := by rw [upd_ne n1p]; exact d.h1, h2 := by rw [upd_ne n2p]; exact d.h2, h3 := by rw [upd_ne n3p]; exact d.h3, hr := d.hr }⟩
end Lf
set_option Elab.async false
set_option linter.all false
set_option maxRecDepth 100000
set_option maxHeartbeats 4000000
namespace Lf
open PySem PySem.Spec PyProof.Rows L2 RZ
theorem hold_ints {h : Heap} : ∀ {us : List Value} {ns : List Int}, IntsAre us ns → ReadsAll h us (ns.map (PySem.W.Datum.toD (α := Int))) []
  | _, _, .nil => .nil
  | _, _, .cons n t r => .cons (as := []) (.int n t) (hold_ints r)
theorem maxOf_spec : ∀ (xs : List Int) (x : Int), PySem.W.maxOf x xs ∈ x :: xs ∧ ∀ y ∈ x :: xs, y ≤ PySem.W.maxOf x xs
  | [], x => by
    refine ⟨by simp [PySem.W.maxOf], fun y hy => ?_⟩
    have : y = x := by simpa using hy
    subst this
    exact Int.le_refl _
  | z :: xs, x => by
    have e : PySem.W.maxOf x (z :: xs) = PySem.W.maxOf (if x < z then z else x) xs := by
      show xs.foldl _ (if decide (x < z) = true then z else x) = _
      by_cases q : x < z <;> simp [q, PySem.W.maxOf]
    obtain ⟨h1, h2⟩ := maxOf_spec xs (if x < z then z else x)
    rw [e]
    have h0 := h2 _ (List.mem_cons_self)
    have g1 : x ≤ (if x < z then z else x) := by split <;> omega
    have g2 : z ≤ (if x < z then z else x) := by split <;> omega
    refine ⟨?_, fun y hy => ?_⟩
    · rcases List.mem_cons.mp h1 with h1 | h1
      · rw [h1]; split <;> simp
      · simp [h1]
    · rcases List.mem_cons.mp hy with rfl | hy
      · exact Int.le_trans g1 h0
      · rcases List.mem_cons.mp hy with rfl | hy
        · exact Int.le_trans g2 h0
        · exact h2 y (by simp [hy])
/-- max(xs, default=d) of ints -/
def rMaxDef (K : PySem.W.Frag) : List V → List V → Hp → VK → Prop := fun xs zs H Q => ∃ (a : Addr) (ns : List Int) (d : Int), xs = [.ref a] ∧ zs = [.int d] ∧ SqL K H a (ns.map V.int) ∧ (ns = [] → Q (.int d) H) ∧ ∀ m, m ∈ ns → (∀ y ∈ ns, y ≤ m) → Q (.int m) H
theorem cr_maxDef {X : Cx} (hc : X.calm = true) (hu : X.A.units + 1 < cLine) : CallRK X (.builtin "max") [Str.ofString "default"] (rMaxDef X.K) := by
  intro pins s σ H vs zs us ws Q I rv rz h
  obtain ⟨a, ns, d, rfl, rfl, hs, q0, q⟩ := h
  obtain rfl := Vals.ref1 rv
  obtain ⟨w1, rfl, t, rfl⟩ := vals1 rz
  obtain ⟨its, r, p, hz⟩ := I.list hs
  refine PySem.W.max_list_datum_default (α := Int) (I.ok.hd hc) p.isList (xs := ns) ⟨[], by simpa using hold_ints (Vals.ints r)⟩ (by show X.A.units + 1 + 0 < cLine; omega) (fun e h' tk k => ?_) fun y ys i v h' tk e hi hv k => ?_
  · exact ⟨.int d, H, I.kept (t' := tk) k, ⟨t, rfl⟩, q0 e⟩
  · obtain ⟨as, rr⟩ := hv
    cases rr with
    | int n t2 =>
      subst e
      have := maxOf_spec ys y
      exact ⟨.int _, H, I.kept (t' := tk) k, ⟨t2, rfl⟩, q _ this.1 this.2⟩
def tMaxDef (K : PySem.W.Frag) (te : TE) (d : Int) : TE := tCKw (rMaxDef K) (tCons te tNil) (tCons (tC (.int d)) tNil)
theorem pe_maxDef {X : Cx} {K : PySem.W.Frag} {e : Expr} {te : TE} {d : Int} (h : PE X e (tCKw (rMaxDef K) (tCons te tNil) (tCons (tC (.int d)) tNil))) : PE X e (tMaxDef K te d) := h
def dMaxDef (de : DE) (d : Int) : DE := fun env C => de env fun x env1 => ∃ ns : List Int, x = .lst (ns.map .int) ∧ (ns = [] → C (.int d) env1) ∧ ∀ m, m ∈ ns → (∀ y ∈ ns, y ≤ m) → C (.int m) env1
instance {K : PySem.W.Frag} {te : TE} {d : Int} {de : DE} [ha : AbsE te de] : AbsE (tMaxDef K te d) (dMaxDef de d) := ⟨fun σ Hs Fr H env Q C er sf fh h k => by
  refine ha.run σ Hs Fr H env _ _ er sf fh h fun v x env1 Hs1 Fr1 H1 r1 s1 sf1 fh1 rv hc => ?_
  obtain ⟨ns, rfl, h0, h1⟩ := hc
  obtain ⟨a, vs, rfl, ha', qa⟩ := rv.lst_inv
  have e := ints_of qa
  subst e
  exact ⟨a, ns, d, rfl, rfl, SqL.of ((sf1.trans fh1) _ _ ha'), fun z => k _ _ env1 Hs1 Fr1 H1 r1 s1 sf1 fh1 (.int _) (h0 z), fun m hm hy => k _ _ env1 Hs1 Fr1 H1 r1 s1 sf1 fh1 (.int _) (h1 m hm hy)⟩⟩
/-- xs.index(y) of ints -/
def tIndex (K K2 : PySem.W.Frag) (te ty : TE) : TE := tBM K "list" (rIndex K2) te (tCons ty tNil)
theorem pe_index {X : Cx} {K K2 : PySem.W.Frag} {e : Expr} {te ty : TE} (h : PE X e (tBM K "list" (rIndex K2) te (tCons ty tNil))) : PE X e (tIndex K K2 te ty) := h
def dIndex (i j : Nat) : DE := fun env C => ∃ (ns : List Int) (m : Int) (k : Nat), env[i]? = some (some (.d (.lst (ns.map .int)))) ∧ env[j]? = some (some (.d (.int m))) ∧ ns[k]? = some m ∧ (∀ k' z, k' < k → ns[k']? = some z → z ≠ m) ∧ C (.int k) env
theorem eqV_int (a b : Int) : eqV (.int a) (.int b) = decide (a = b) := by
  by_cases h : a = b
  · subst h; simp [eqV]
  · simp [eqV, h]
instance {K K2 : PySem.W.Frag} {i j : Nat} : AbsE (tIndex K K2 (tVar i) (tVar j)) (dIndex i j) := ⟨fun σ Hs Fr H env Q C er sf fh h k => by
  obtain ⟨ns, m, n, h1, h2, h3, h4, hC⟩ := h
  obtain ⟨v, hv, rv⟩ := er.dat h1
  obtain ⟨a, vs, rfl, ha', qa⟩ := rv.lst_inv
  have e := ints_of qa
  subst e
  obtain ⟨w, hw, rw'⟩ := er.dat h2
  cases rw'.int_inv
  have hl := (sf.trans fh) _ _ ha'
  refine ⟨_, hv, .inl ⟨rfl, _, SqL.of hl⟩, _, hw, a, ns.map V.int, .int m, n, .int m, rfl, rfl, SqL.of hl, rfl, ?_, by rw [List.getElem?_map, h3]; rfl, by rw [eqV_int]; simp, fun k' z' hk hz => ?_, k _ _ env Hs Fr H er (Stp.refl _ _) sf fh (.int _) hC⟩
  · rw [List.all_map]; exact List.all_eq_true.mpr fun x _ => rfl
  · rw [List.getElem?_map] at hz
    cases q : ns[k']? with
    | none => rw [q] at hz; cases hz
    | some z =>
      rw [q] at hz
      cases hz
      rw [eqV_int]
      exact decide_eq_false (h4 k' z hk q)⟩
end Lf
set_option Elab.async false
set_option linter.all false
set_option maxRecDepth 100000
set_option maxHeartbeats 4000000
namespace Lf
open PySem PySem.Spec PyProof.Rows L2 RZ
/-! methods by name -/
def Mt (P : Program) (w : World) (K : PySem.W.Frag) (mg : Str → Option Value) (base : Heap) (k : Nat) (C : Addr) (m : Str) (ps : List Str) (sp : Sp) : Prop := ∃ fd, FnOk P w K mg base CX0 k (He.ma K C m) fd ps sp ∧ Binds K fd ps []
section
variable {X : Cx} {k : Nat} {C : Addr} {m : Str} {ps : List Str} {sp : Sp} {o e : Expr} {es : List Expr} {ta : TE} {t : TA} {apos pos : Pos} {pl : Sem Bool}
theorem pe_m (c : Cls X.K C) (hm : Meth X.K C m (He.ma X.K C m)) (F : Mt X.prog X.w X.K X.mg X.base k C m ps sp) (hr : Room k X.A) (he : PE X o ta) (ha : PA X (e :: es) t)
    (hst : starEach (e :: es) X.env = (false, eval e X.env) :: starEach es X.env := by rfl) (hpl : (backTo pos (starEach es X.env)).any (·.1) = false := by rfl)
    (ht : eval (.Call (.Attribute o m apos) (e :: es) [] pos) X.env = (do
      let ov ← eval o X.env ; standAt apos.atName
      let (f, first) ← holding [ov] (getMethod ov m pl)
      callWith pos f first (backTo pos (starEach (e :: es) X.env)) (backToKw pos (keywordEach [] X.env))) := by rfl) :
    PE X (.Call (.Attribute o m apos) (e :: es) [] pos) (tMeth C m sp [] E0 ta t) := by
  obtain ⟨fd, G, b⟩ := F
  exact pe_meth (pl := pl) he c hm G hr b .nil pass0 ha hst hpl ht
theorem pe_m0 (c : Cls X.K C) (hm : Meth X.K C m (He.ma X.K C m)) (F : Mt X.prog X.w X.K X.mg X.base k C m ps sp) (hr : Room k X.A) (he : PE X o ta)
    (ht : eval (.Call (.Attribute o m apos) [] [] pos) X.env = (do
      let ov ← eval o X.env ; standAt apos.atName
      let (f, first) ← holding [ov] (getMethod ov m pl)
      callWith pos f first (backTo pos (starEach [] X.env)) (backToKw pos (keywordEach [] X.env))) := by rfl) :
    PE X (.Call (.Attribute o m apos) [] [] pos) (tMeth C m sp [] E0 ta tNil) := by
  obtain ⟨fd, G, b⟩ := F
  exact pe_meth0 (pl := pl) he c hm G hr b .nil pass0 ht
end
/-! a method that changes it -/
def tMethO (C : Addr) (m : Str) (sp : Sp) (i : Nat) (t : TA) : TE := tMeth C m sp [] E0 (tVar i) t
theorem pe_methO {X : Cx} {e : Expr} {C : Addr} {m : Str} {sp : Sp} {i : Nat} {t : TA} (h : PE X e (tMeth C m sp [] E0 (tVar i) t)) : PE X e (tMethO C m sp i t) := h
def dMethO (C : Addr) (m : Str) (n : Nat) (ow : OW) (i : Nat) (da : DA) : DE := fun env K => (∃ st, env[i]? = some (some (.o (bas C st))) ∧ st.flds.lookup m = none) ∧ dCallO n ow i da env K
instance {C : Addr} {m : Str} {n : Nat} {ow : OW} {i : Nat} {t : TA} {da : DA} [ha : AbsA t da] : AbsE (tMethO C m (OSp n ow) i t) (dMethO C m n ow i da) := ⟨fun σ Hs Fr H env Q K er sf fh h k => by
  obtain ⟨⟨st, hw, hl⟩, h⟩ := h
  have hc : AbsE (tCallO (OSp n ow) i E0 t) (dCallO n ow i da) := inferInstance
  obtain ⟨v0, hv, rest⟩ := hc.run σ Hs Fr H env Q K er sf fh h k
  obtain ⟨fp, r⟩ := er
  obtain ⟨v1, hv1, at0⟩ := r.val hw
  rw [hv] at hv1
  cases hv1
  obtain ⟨p, dx, fsV, h1, h2, h3, h4⟩ := asRec_bas Hs H v0 _ (sf.trans fh) at0
  subst h1
  exact ⟨_, hv, p, dx, fsV, rfl, h2, h3 m hl, rest⟩⟩
/-! an object of one's own that is read alone from here on -/
def both (Hs H : Hp) (fp : List Addr) : Hp := fun a => match Hs a with
  | some o => some o
  | none => if a ∈ fp then H a else none
theorem both_same {Hs H : Hp} {fp : List Addr} : Same Hs (both Hs H fp) := fun a o h => by unfold both; rw [h]
theorem both_heap {Hs H : Hp} {fp : List Addr} (s : Same Hs H) : Same (both Hs H fp) H := fun a o h => by
  unfold both at h
  cases q : Hs a with
  | some u => rw [q] at h; cases h; exact s a _ q
  | none =>
    rw [q] at h
    by_cases z : a ∈ fp
    · simp only [z, if_true] at h; exact h
    · simp only [z, if_false] at h; cases h
theorem both_in {Hs H : Hp} {fp : List Addr} {a : Addr} (h : a ∈ fp) (n : Hs a = none) : both Hs H fp a = H a := by unfold both; rw [n]; simp only [h, if_true]
theorem both_out {Hs H : Hp} {fp : List Addr} {a : Addr} (h : a ∉ fp) : both Hs H fp a = Hs a := by
  unfold both
  cases Hs a with
  | some o => rfl
  | none => simp only [h, if_false]
theorem both_both {Hs Fr H : Hp} {fp : List Addr} (s : Same Hs Fr) (hf : ∀ a ∈ fp, Fr a = none) : Same (both Hs H fp) (both Fr H fp) := fun a o h => by
  by_cases z : a ∈ fp
  · rw [both_in z (none_of s (hf a z))] at h
    rw [both_in z (hf a z)]; exact h
  · rw [both_out z] at h ⊢
    exact s a o h
def tFrzB (C : Addr) (i : Nat) (t : TS) : TS := t
theorem pss_frzB {X : Cx} {b : List Stmt} {t : TS} (C : Addr) (i : Nat) (h : PSs X b t) : PSs X b (tFrzB C i t) := h
def dFrzB (C : Addr) (i : Nat) (a : DS) : DS := fun env E => ∃ st, env[i]? = some (some (.o (bas C st))) ∧ a (env.set i (some (.o (recO C st.flds)))) E
theorem EnvF.frzB {Hs Fr H : Hp} {σ : L2.St} {env : Env} {fp : Nat → List Addr} (r : EnvF Hs Fr H σ env fp) (sf : Same Hs Fr) (fh : Same Fr H) {C : Addr} {st : BSt} {i : Nat} (hw : env[i]? = some (some (.o (bas C st)))) :
    EnvF (both Hs H (fp i)) (both Fr H (fp i)) H σ (env.set i (some (.o (recO C st.flds)))) (fun j => if j = i then [] else fp j) ∧ Stp Hs Fr (both Hs H (fp i)) (both Fr H (fp i)) ∧ Same (both Hs H (fp i)) (both Fr H (fp i)) ∧ Same (both Fr H (fp i)) H := by
  obtain ⟨v0, hv, p, dx, l1, l2, l3, fsV, rows, d⟩ := r.val hw
  have hi : i < env.length := (List.getElem?_eq_some_iff.mp hw).1
  have hf : ∀ a ∈ fp i, Fr a = none := r.fr i _ hw
  have hs : ∀ a ∈ fp i, Hs a = none := fun a ha => none_of sf (hf a ha)
  have back : ∀ (j : Nat) e, (env.set i (some (.o (recO C st.flds))))[j]? = some (some e) → (j = i ∧ e = .o (recO C st.flds)) ∨ (j ≠ i ∧ env[j]? = some (some e)) := fun j e he => by
    by_cases z : j = i
    · subst z
      rw [List.getElem?_set_self hi] at he
      cases he
      exact .inl ⟨rfl, rfl⟩
    · rw [List.getElem?_set_ne (Ne.symm z)] at he
      exact .inr ⟨z, he⟩
  have e0 := d.ev
  subst e0
  have at_ : ∀ a o, a ∈ fp i → H a = some o → both Hs H (fp i) a = some o := fun a o ha h => by rw [both_in ha (hs a ha)]; exact h
  have rc0 : RecAt (both Hs H (fp i)) C (.ref p) st.flds := by
    refine ⟨p, dx, fsV, rfl, at_ _ _ (by rw [d.ef]; simp) d.hp, d.gn, fun f x hx => ?_⟩
    rcases flds_get st f x hx with ⟨rfl, rfl⟩ | ⟨rfl, rfl⟩ | ⟨rfl, rfl⟩ | ⟨rfl, rfl⟩
    · exact ⟨_, d.g0, .int _⟩
    · exact ⟨_, d.g1, rp_ints (at_ _ _ (by rw [d.ef]; simp) d.h1)⟩
    · exact ⟨_, d.g2, rp_mems (at_ _ _ (by rw [d.ef]; simp) d.h2)⟩
    · exact ⟨_, d.g3, .lstA (at_ _ _ (by rw [d.ef]; simp) d.h3) (d.hr.mono both_same)⟩
  refine ⟨⟨by simpa using r.len, fun j e he => ?_, fun j e he a ha => ?_, fun j q e e' hjq h1 h2 a ha => ?_⟩, ⟨both_same, both_same, fun a h1 h2 => ?_⟩, both_both sf hf, both_heap fh⟩
  · rcases back j e he with ⟨rfl, rfl⟩ | ⟨z, he'⟩
    · exact ⟨_, hv, by simp, rc0⟩
    · obtain ⟨u, h1, h2⟩ := r.at_ j e he'
      exact ⟨u, h1, by simp only [if_neg z]; exact En.mono h2 both_same fun _ _ => rfl⟩
  · rcases back j e he with ⟨rfl, rfl⟩ | ⟨z, he'⟩
    · simp at ha
    · rw [if_neg z] at ha
      rw [both_out (r.dis j i e _ z he' hw a ha)]
      exact r.fr j e he' a ha
  · rcases back j e h1 with ⟨rfl, rfl⟩ | ⟨z, he'⟩
    · simp at ha
    · rw [if_neg z] at ha
      rcases back q e' h2 with ⟨rfl, rfl⟩ | ⟨z2, he2⟩
      · simp
      · rw [if_neg z2]
        exact r.dis j q e e' hjq he' he2 a ha
  · have : a ∉ fp i := fun z => h1 (hf a z)
    rw [both_out this]; exact h2
instance {C : Addr} {i : Nat} {t : TS} {a : DS} [ht : AbsS t a] : AbsS (tFrzB C i t) (dFrzB C i a) := ⟨fun σ Hs Fr H env D E er sf fh h kn kr kb kc => by
  obtain ⟨st, hw, h⟩ := h
  obtain ⟨fp, r⟩ := er
  obtain ⟨r1, s1, sf1, fh1⟩ := r.frzB sf fh hw
  have p1 : Kp σ env σ (env.set i (some (.o (recO C st.flds)))) := fun q w hq => by
    refine ⟨rfl, ?_⟩
    by_cases z : i = q
    · subst z
      exact ⟨_, List.getElem?_set_self (List.getElem?_eq_some_iff.mp hw).1⟩
    · exact ⟨w, by rw [List.getElem?_set_ne z]; exact hq⟩
  refine ht.run σ _ _ H _ D E ⟨_, r1⟩ sf1 fh1 h ?_ ?_ ?_ ?_
  · exact fun σ2 env2 Hs2 Fr2 H2 r2 s2 sf2 fh2 p2 h2 => kn σ2 env2 Hs2 Fr2 H2 r2 (s1.trans s2) sf2 fh2 (p1.trans p2) h2
  · exact fun v d σ2 env2 Hs2 Fr2 H2 r2 s2 sf2 fh2 p2 rv h2 => kr v d σ2 env2 Hs2 Fr2 H2 r2 (s1.trans s2) sf2 fh2 (p1.trans p2) rv h2
  · exact fun σ2 env2 Hs2 Fr2 H2 r2 s2 sf2 fh2 p2 h2 => kb σ2 env2 Hs2 Fr2 H2 r2 (s1.trans s2) sf2 fh2 (p1.trans p2) h2
  · exact fun σ2 env2 Hs2 Fr2 H2 r2 s2 sf2 fh2 p2 h2 => kc σ2 env2 Hs2 Fr2 H2 r2 (s1.trans s2) sf2 fh2 (p1.trans p2) h2⟩
/-! [x] * n, as a new list of one's own -/
def dNewRep (x : D) (de : DE) : DA := fun env Q => de env fun y env1 => ∃ n : Nat, y = .int n ∧ n ≤ 1000 ∧ Q (List.replicate n x) env1
def tRepO (K : PySem.W.Frag) (c : V) (te : TE) : TE := tOp (rbMul K) (tLst (tCons (tC c) tNil)) te
theorem pe_repO {X : Cx} {K : PySem.W.Frag} {e : Expr} {c : V} {te : TE} (h : PE X e (tOp (rbMul K) (tLst (tCons (tC c) tNil)) te)) : PE X e (tRepO K c te) := h
class CV (c : V) (x : outParam D) : Prop where
  rp : ∀ H, Rp H c x
instance {i : Int} : CV (.int i) (.int i) := ⟨fun _ => .int i⟩
instance : CV .non .non := ⟨fun _ => .non⟩
theorem flat_rep {α : Type} (x : α) (n : Nat) : (List.replicate n [x]).flatten = List.replicate n x := List.flatten_replicate_singleton
theorem RpA.const {H : Hp} {c : V} {x : D} (h : Rp H c x) (n : Nat) : RpA H (List.replicate n c) (List.replicate n x) := ⟨by simp, fun i v d h1 h2 => by
  rw [List.getElem?_replicate] at h1 h2
  split at h1
  · next q => rw [if_pos q] at h2; cases h1; cases h2; exact h
  · cases h1⟩
instance {K : PySem.W.Frag} {c : V} {x : D} {te : TE} {de : DE} [hc : CV c x] [he : AbsE te de] : AbsN (tRepO K c te) (dNewRep x de) := ⟨fun σ Hs Fr H env Q C er sf fh h k => by
  refine ⟨by show 1 ≤ sizeLine; decide, fun p hp => ?_⟩
  have g := Gr.new sf fh hp (.lst [c])
  refine he.run σ _ _ _ env _ _ (er.gr g) g.sf g.fh h fun y d env1 Hs1 Fr1 H1 r1 s1 sf1 fh1 ry h1 => ?_
  obtain ⟨n, rfl, hn, h1⟩ := h1
  cases ry.int_inv
  have hp1 : H1 p = some (.lst [c]) := fh1 _ _ (s1.f _ _ upd_same)
  refine .inr (.inr (.inr ⟨p, n, [c], rfl, rfl, hp1, by omega, by omega, szl (by simp; omega), fun q hq => ?_⟩))
  have e : ((n : Nat) : Int).toNat = n := by omega
  rw [e, flat_rep]
  have fp1 : Fr1 q = none := none_of fh1 hq
  obtain ⟨fpf, rf⟩ := r1
  exact k q (List.replicate n c) (List.replicate n x) env1 Hs1 Fr1 (upd H1 q (.lst (List.replicate n c))) (upd Fr1 q (.lst (List.replicate n c))) ⟨fpf, rf.frz (Same.refl _) (rf.not (.inr hq)) (fun a ha => upd_ne ha) (fun a ha h => by rw [upd_ne ha]; exact h)⟩ (g.st.trans s1) sf1 (same_upd (Same.refl _) fp1) (same_upd2 fh1) (fun a ha => upd_ne ha) fp1 upd_same (RpA.const (hc.rp _) n) h1⟩
theorem ea_rep {env : Env} {de : DE} {x : D} {n : Nat} (h : Ev de env (.int n)) (l : n ≤ 1000) : EvA (dNewRep x de) env (List.replicate n x) := fun C k => h _ fun _ e => ⟨n, e, l, k _ rfl⟩
/-! xs[k] = e, xs a list of one's own -/
def tSetO (i j : Nat) (te : TE) : TS := tAsg te (gSub (tVar i) (tVar j) rSetL)
theorem ps_setO {X : Cx} {st : Stmt} {i j : Nat} {te : TE} (h : PS X st (tAsg te (gSub (tVar i) (tVar j) rSetL))) : PS X st (tSetO i j te) := h
def dSetO (i j : Nat) (de : DE) : DS := fun env E => de env fun d env1 => keepE env env1 ∧ ∃ (xs : List D) (k : Nat), env1[i]? = some (some (.l xs)) ∧ env1[j]? = some (some (.d (.int k))) ∧ k < xs.length ∧ E.nx (env1.set i (some (.l (xs.set k d))))
instance {i j : Nat} {te : TE} {de : DE} [ha : AbsE te de] : AbsS (tSetO i j te) (dSetO i j de) := ⟨fun σ Hs Fr H env D E er sf fh h kn kr kb kc => by
  refine ha.run σ Hs Fr H env _ _ er sf fh h fun v dd env1 Hs1 Fr1 H1 r1 s1 sf1 fh1 rv hc => ?_
  obtain ⟨ke, xs, n, hx, hj, hk, hE⟩ := hc
  obtain ⟨y, hy, ry⟩ := r1.dat hj
  cases ry.int_inv
  obtain ⟨p, vs, hp, hl, ra, hf⟩ := r1.own hx
  obtain ⟨fpf, rf⟩ := r1
  refine ⟨_, hp, _, hy, p, vs, _, n, rfl, rfl, hl, by rw [ra.1]; exact ixN_nat hk, ?_⟩
  exact kn σ _ Hs1 Fr1 _ ⟨fpf, rf.updL hx hp (ra.set n rv)⟩ s1 sf1 (same_updF fh1 hf) ((Kp.ofE ke).trans (.setL _ hx)) hE⟩
theorem st_setO {env : Env} {a : DE} {E : DEnds} {i j k : Nat} {xs : List D} {d : D} (h : Ev a env d) (hx : env[i]? = some (some (.l xs))) (hj : env[j]? = some (some (.d (.int (k : Nat))))) (hk : k < xs.length) (q : E.nx (env.set i (some (.l (xs.set k d))))) : dSetO i j a env E := h _ fun _ e => by
  subst e; exact ⟨keepE_refl, xs, k, hx, hj, hk, q⟩
theorem ls_body3 {C : Addr} {n : Nat} {vw : VW} {N : List Str} {t t2 : TS} {dS : DS} {i : Nat} {vs : List V} {H : Hp} {Q : VK} {E : XK} (h : VSp C n vw vs H Q E) (ha : AbsS (tSeq t t2) dS)
    (body : ∀ fs as K, as.length + 1 = n → vw fs as K → dS (some (.o (recO C fs)) :: env0 (N.length - n) as) { nx := fun env' => ∃ ns : List Int, env'[i]? = some (some (.l (ns.map .int))) ∧ K (.lst (ns.map .int)), rt := fun _ _ => False }) :
    tSeq t (tSeq t2 (tRet (tVar i))) { nx := fun _ H' => Q .non H', rt := Q } (start N vs) H := ls_body2 h ha body
/-- a def that returns what a method of its object tells -/
theorem vs_pass {C : Addr} {n n2 : Nat} {vw vw2 : VW} {m : Str} {N : List Str} {t : TA} {dA : DA} {vs : List V} {H : Hp} {Q : VK} {E : XK} (h : VSp C n vw vs H Q E) (ha : AbsA t dA)
    (body : ∀ fs as K, as.length + 1 = n → vw fs as K → fs.lookup m = none ∧ dA (some (.o (recO C fs)) :: env0 (N.length - n) as) fun ds env1 => env1[0]? = some (some (.o (recO C fs))) ∧ ds.length + 1 = n2 ∧ vw2 fs ds K) :
    tRet (tMethV C m (VSp C n2 vw2) 0 t) { nx := fun _ H' => Q .non H', rt := Q } (start N vs) H := by
  obtain ⟨hl, v0, vs', fs, as, K, rfl, r, ra, hw, hK⟩ := h
  have e : as.length + 1 = n := by rw [← ra.1]; simpa using hl
  rw [start_cons hl]
  obtain ⟨hm, hb⟩ := body fs as K e hw
  obtain ⟨p, dx, fsV, h1, h2, h3, h4⟩ := id r
  subst h1
  refine ⟨.ref p, rfl, p, dx, fsV, rfl, h2, h3 m hm, ?_⟩
  refine ha.run _ H H H _ _ _ ⟨_, rec_env _ r ra⟩ (Same.refl _) (Same.refl _) hb fun ws ds env1 Hs1 Fr1 H1 r1 s1 sf1 fh1 ra1 hc => ?_
  obtain ⟨_, hn, hv⟩ := hc
  have s01 : Same H H1 := s1.f.trans fh1
  refine ⟨by simp [ra1.1]; exact hn, .ref p, ws, fs, ds, K, by simp, r.mono s01, ra1.mono (sf1.trans fh1), hv, fun v d H' s res c => hK v d H' (s01.trans s) ?_ c⟩
  rcases res with ⟨hi, rv⟩ | ⟨q, ns, rfl, hq, rfl, hq'⟩
  · exact .inl ⟨hi, rv⟩
  · exact .inr ⟨q, ns, rfl, none_of s01 hq, rfl, hq'⟩
end Lf
set_option Elab.async false
set_option linter.all false
set_option maxRecDepth 100000
set_option maxHeartbeats 4000000
namespace Lf
open PySem PySem.Spec PyProof.Rows L2 RZ StX
def dStar (de : DE) (da : DA) : DA := fun env C => de env fun x env1 => ∃ xs, x.items? = some xs ∧ da env1 fun ys env2 => C (xs ++ ys) env2
instance {K : PySem.W.Frag} {te : TE} {ta : TA} {de : DE} {da : DA} [he : AbsE te de] [ha : AbsA ta da] : AbsA (tStar K te ta) (dStar de da) := ⟨fun σ Hs Fr H env Q C er sf fh h k => by
  refine he.run σ Hs Fr H env _ _ er sf fh h fun x a env1 Hs1 Fr1 H1 r1 s1 sf1 fh1 p1 h1 => ?_
  obtain ⟨xs, e, h1⟩ := h1
  have go : ∀ (vs : List V), RpA Hs1 vs xs → ta σ H1 fun ws H2 => Q (vs ++ ws) H2 := fun vs q =>
    ha.run σ Hs1 Fr1 H1 env1 _ _ r1 sf1 fh1 h1 fun ws ys env2 Hs2 Fr2 H2 r2 s2 sf2 fh2 p2 h2 => k _ _ env2 Hs2 Fr2 H2 r2 (s1.trans s2) sf2 fh2 ((q.mono s2.s).append p2) h2
  cases a with
  | lst ys =>
    cases e
    obtain ⟨p, vs, rfl, ha', q⟩ := p1.lst_inv
    exact ⟨p, vs, rfl, .inr (SqL.of ((sf1.trans fh1) _ _ ha')), go vs q⟩
  | tup ys =>
    cases e
    obtain ⟨p, vs, rfl, ha', q⟩ := p1.tup_inv
    exact ⟨p, vs, rfl, .inl (SqT.of ((sf1.trans fh1) _ _ ha')), go vs q⟩
  | _ => cases e⟩
theorem ea_star {env : Env} {a : DE} {da : DA} {x : D} {xs ds : List D} (h : Ev a env x) (e : x.items? = some xs) (h2 : EvA da env ds) : EvA (dStar a da) env (xs ++ ds) := fun C k => h _ fun _ e1 => by
  subst e1
  exact ⟨xs, e, h2 _ fun _ e2 => by subst e2; exact k _ rfl⟩
end Lf
set_option Elab.async false
set_option linter.all false
set_option maxRecDepth 100000
set_option maxHeartbeats 4000000
/-! A new basis -/
namespace Lf
open PySem PySem.Spec PyProof.Rows L2 RZ
/-- the members of a new basis -/
def BSt.new (goal : List Int) : BSt where
  scale := 1
  levels := goal.map fun z => if z < 0 then -z else z
  members := List.replicate goal.length none
  inverse := (List.range goal.length).map fun k => (List.range goal.length).map fun i => if i = k then (if goal.getD k 0 < 0 then -1 else 1) else 0
def zrow (n : Nat) : List V := List.replicate n (.int 0)
/-- row k of the inverse when it is made -/
def irow (goal : List Int) (k : Nat) : List V := (zrow goal.length).set k (.int (if goal.getD k 0 < 0 then -1 else 1))
structure Made (H H' : Hp) (C x dx : Addr) (goal : List Int) (l1 l2 l3 : Addr) (rows : List Addr) : Prop where
  keep : ∀ a o, a ≠ x → H a = some o → H' a = some o
  ob : H' x = some (.ins C dx [(("scale" : Str), .int 1), (("levels" : Str), .ref l1), (("members" : Str), .ref l2), (("inverse" : Str), .ref l3)])
  f1 : H l1 = none
  f2 : H l2 = none
  f3 : H l3 = none
  n12 : l1 ≠ l2
  n13 : l1 ≠ l3
  n23 : l2 ≠ l3
  h1 : H' l1 = some (.lst ((BSt.new goal).levels.map V.int))
  h2 : H' l2 = some (.lst ((BSt.new goal).members.map memV))
  h3 : H' l3 = some (.lst (rows.map V.ref))
  len : rows.length = goal.length
  rw_ : ∀ (k : Nat) r, rows[k]? = some r → H r = none ∧ r ≠ l1 ∧ r ≠ l2 ∧ r ≠ l3 ∧ H' r = some (.lst (irow goal k))
def initSp (C : Addr) : Sp := fun vs H Q _ => ∃ (x dx g : Addr) (goal : List Int), vs = [.ref x, .ref g] ∧ H x = some (.ins C dx []) ∧ H g = some (.tup (goal.map V.int)) ∧ goal.length ≤ 60 ∧
  ∀ H' l1 l2 l3 rows, Made H H' C x dx goal l1 l2 l3 rows → Q .non H'
abbrev rIxQ (K : PySem.W.Frag) : R2 := fun x y H Q => rIxL K x y H Q ∨ rIxT K x y H Q
def tInit (K : PySem.W.Frag) (C : Addr) : TS :=
  tSeq (tAsg (tCB (rLenQ K) (tCons (tVar 1) tNil)) (gName 2))
  (tSeq (tSetFld C 0 "scale" (tC (.int 1)))
  (tSeq (tSetFld C 0 "levels" (tLc (iSeq K (tVar 1)) (gName 4) tYes (tCB rAbs (tCons (tVar 4) tNil)) [4]))
  (tSeq (tSetFld C 0 "members" (tOp (rbMul K) (tLst (tCons (tC .non) tNil)) (tVar 2)))
  (tSeq (tSetFld C 0 "inverse" (tLc (iRng1 (tCons (tVar 2) tNil)) (gName 5) tYes (tOp (rbMul K) (tLst (tCons (tC (.int 0)) tNil)) (tVar 2)) [5]))
   (tFor (iRng1 (tCons (tVar 2) tNil)) (gName 3)
    (tAsg (tIf (tTest (tOp (rI0 fun i j => .bl (decide (i < j))) (tOp (rIxQ K) (tVar 1) (tVar 3)) (tC (.int 0)))) (tUn (rU fun i => .int (-i)) (tC (.int 1))) (tC (.int 1)))
      (gSub (tOp (rIxQ K) (tFldC C (tVar 0) "inverse") (tVar 3)) (tVar 3) rSetL)))))))
theorem putF_new {f : Str} {v : V} : ∀ {fs : List (Str × V)}, fs.lookup f = none → putF f v fs = fs ++ [(f, v)]
  | [], _ => rfl
  | (k, x) :: r, h => by
    by_cases e : k = f
    · subst e; simp [List.lookup] at h
    · have e2 : (f == k) = false := by simpa using fun z => e z.symm
      have h2 : r.lookup f = none := by rw [List.lookup_cons, e2] at h; exact h
      simp only [putF, e, if_false, putF_new h2, List.cons_append]
theorem init_pure {K : PySem.W.Frag} {C : Addr} {vs : List V} {H : Hp} {Q : VK} {E : XK} (h : initSp C vs H Q E) :
    tInit K C { nx := fun _ H' => Q .non H', rt := Q } (start ["self", "goal", "many", "k", "number", "_"] vs) H := by
  obtain ⟨x, dx, g, goal, rfl, hx, hg, n60, hQ⟩ := h
  have ngx : g ≠ x := fun z => by rw [z, hx] at hg; cases hg
  have lg : (goal.map V.int).length = goal.length := List.length_map ..
  -- many
  refine ⟨_, rfl, g, goal.map V.int, rfl, .inr (SqT.of hg), ?_⟩
  -- scale
  refine ⟨_, rfl, x, dx, [], rfl, hx, by decide, ?_⟩
  have hg1 : upd H x (.ins C dx (putF "scale" (.int 1) [])) g = some (.tup (goal.map V.int)) := by rw [upd_ne ngx]; exact hg
  have hx1 : upd H x (.ins C dx (putF "scale" (.int 1) [])) x = some (.ins C dx [(("scale" : Str), .int 1)]) := upd_same
  have k1 : ∀ a o, a ≠ x → H a = some o → upd H x (.ins C dx (putF "scale" (.int 1) [])) a = some o := fun a o ha h => by rw [upd_ne ha]; exact h
  have z1 : ∀ a, upd H x (.ins C dx (putF "scale" (.int 1) [])) a = none → H a = none := fun a h => by
    by_cases q : a = x
    · subst q; rw [upd_same] at h; cases h
    · rw [upd_ne q] at h; exact h
  generalize upd H x (.ins C dx (putF "scale" (.int 1) [])) = H1 at hg1 hx1 k1 z1 ⊢
  -- levels
  refine ⟨_, rfl, .inr ⟨g, rfl, ⟨_, SqT.of hg1⟩, fun l1 hl1 => ?_⟩⟩
  refine lc_tup (xs := goal.map V.int) (fun i H' => (∀ a o, H1 a = some o → H' a = some o) ∧ H' l1 = some (.lst ((goal.take i).map fun z => V.int (if z < 0 then -z else z)))) ⟨fun a o h => ?_, ?_⟩ (fun i H' _ h => SqT.of (h.1 _ _ hg1)) (fun i y H' hy h => ⟨rfl, ?_⟩) fun H2 h2 => ?_
  · rw [upd_ne (fun z => by rw [z, hl1] at h; cases h)]; exact h
  · rw [upd_same]; rfl
  · rw [List.getElem?_map] at hy
    cases q : goal[i]? with
    | none => rw [q] at hy; cases hy
    | some z =>
      rw [q] at hy; cases hy
      have hi := (List.getElem?_eq_some_iff.mp q).1
      refine ⟨_, rfl, z, rfl, _, h.2, ?_, fun a o ha => ?_, ?_⟩
      · exact szlt (by rw [List.length_map, List.length_take]; omega)
      · rw [upd_ne (fun e => by rw [e, hl1] at ha; cases ha)]; exact h.1 a o ha
      · rw [upd_same, take_next q, List.map_append]; rfl
  obtain ⟨k2, h2⟩ := h2
  rw [lg, List.take_length] at h2
  have nl1x : l1 ≠ x := fun z => by rw [z, hx1] at hl1; cases hl1
  have f1 : H l1 = none := z1 _ hl1
  refine ⟨_, rfl, x, dx, _, rfl, k2 _ _ hx1, by show 1 < 1000; decide, ?_⟩
  have hx2 : upd H2 x (.ins C dx (putF "levels" (.ref l1) [(("scale" : Str), .int 1)])) x = some (.ins C dx [(("scale" : Str), .int 1), (("levels" : Str), .ref l1)]) := upd_same
  have hl2 : upd H2 x (.ins C dx (putF "levels" (.ref l1) [(("scale" : Str), .int 1)])) l1 = some (.lst (goal.map fun z => V.int (if z < 0 then -z else z))) := by rw [upd_ne nl1x]; exact h2
  have k3 : ∀ a o, a ≠ x → H a = some o → upd H2 x (.ins C dx (putF "levels" (.ref l1) [(("scale" : Str), .int 1)])) a = some o := fun a o ha h => by rw [upd_ne ha]; exact k2 _ _ (k1 a o ha h)
  generalize upd H2 x (.ins C dx (putF "levels" (.ref l1) [(("scale" : Str), .int 1)])) = H3 at hx2 hl2 k3 ⊢
  have z3 : ∀ a, H3 a = none → H a = none := fun a h => by
    cases q : H a with
    | none => rfl
    | some o =>
      by_cases e : a = x
      · subst e; rw [hx2] at h; cases h
      · rw [k3 a o e q] at h; cases h
  -- members
  refine ⟨by show 1 ≤ sizeLine; decide, fun p hp => ?_⟩
  refine ⟨_, rfl, ?_⟩
  refine .inr (.inr (.inr ⟨p, _, [.non], rfl, rfl, upd_same, by omega, by omega, szl (by simp; omega), fun l2 hl2' => ?_⟩))
  have nl2p : l2 ≠ p := fun z => by rw [z, upd_same] at hl2'; cases hl2'
  have hl3 : H3 l2 = none := by rw [upd_ne nl2p] at hl2'; exact hl2'
  have n12 : l1 ≠ l2 := fun z => by rw [← z, hl2] at hl3; cases hl3
  have nl2x : l2 ≠ x := fun z => by rw [z, hx2] at hl3; cases hl3
  have e2 : ((goal.map V.int).length : Int).toNat = goal.length := by rw [lg]; omega
  rw [e2, flat_rep]
  have hx3 : upd (upd H3 p (.lst [.non])) l2 (.lst (List.replicate goal.length V.non)) x = some (.ins C dx [(("scale" : Str), .int 1), (("levels" : Str), .ref l1)]) := by
    rw [upd_ne (Ne.symm nl2x), upd_ne (fun z => by rw [← z, hx2] at hp; cases hp)]; exact hx2
  refine ⟨_, rfl, x, dx, _, rfl, hx3, by show 2 < 1000; decide, ?_⟩
  have hx4 : upd (upd (upd H3 p (.lst [.non])) l2 (.lst (List.replicate goal.length V.non))) x (.ins C dx (putF "members" (.ref l2) [(("scale" : Str), .int 1), (("levels" : Str), .ref l1)])) x = some (.ins C dx [(("scale" : Str), .int 1), (("levels" : Str), .ref l1), (("members" : Str), .ref l2)]) := upd_same
  have hm4 : upd (upd (upd H3 p (.lst [.non])) l2 (.lst (List.replicate goal.length V.non))) x (.ins C dx (putF "members" (.ref l2) [(("scale" : Str), .int 1), (("levels" : Str), .ref l1)])) l2 = some (.lst (List.replicate goal.length V.non)) := by rw [upd_ne nl2x, upd_same]
  have k4 : ∀ a o, a ≠ x → H3 a = some o → upd (upd (upd H3 p (.lst [.non])) l2 (.lst (List.replicate goal.length V.non))) x (.ins C dx (putF "members" (.ref l2) [(("scale" : Str), .int 1), (("levels" : Str), .ref l1)])) a = some o := fun a o ha h => by
    rw [upd_ne ha, upd_ne (fun z => by rw [z, hl3] at h; cases h), upd_ne (fun z => by rw [z, hp] at h; cases h)]; exact h
  generalize upd (upd (upd H3 p (.lst [.non])) l2 (.lst (List.replicate goal.length V.non))) x (.ins C dx (putF "members" (.ref l2) [(("scale" : Str), .int 1), (("levels" : Str), .ref l1)])) = H4 at hx4 hm4 k4 ⊢
  have hl4 : H4 l1 = some (.lst (goal.map fun z => V.int (if z < 0 then -z else z))) := k4 _ _ nl1x hl2
  have k5 : ∀ a o, a ≠ x → H a = some o → H4 a = some o := fun a o ha h => k4 _ _ ha (k3 _ _ ha h)
  have z4 : ∀ a, H4 a = none → H a = none := fun a h => by
    cases q : H a with
    | none => rfl
    | some o =>
      by_cases e : a = x
      · subst e; rw [hx4] at h; cases h
      · rw [k5 a o e q] at h; cases h
  -- inverse
  refine ⟨_, rfl, ((goal.map V.int).length : Int), rfl, by omega, by omega, fun l3 hl3' => ?_⟩
  rw [e2]
  refine lc_range (lo := 0) (n := goal.length) (fun i H' => ∃ rows : List Addr, rows.length = i ∧ (∀ a o, H4 a = some o → H' a = some o) ∧ H' l3 = some (.lst (rows.map V.ref)) ∧ rows.Nodup ∧ ∀ r ∈ rows, H4 r = none ∧ r ≠ l3 ∧ H' r = some (.lst (zrow goal.length)))
    ⟨[], rfl, fun a o h => ?_, upd_same, List.nodup_nil, fun r hr => by simp at hr⟩ (fun i H' hi h => ⟨rfl, ?_⟩) fun H5 h5 => ?_
  · rw [upd_ne (fun z => by rw [z, hl3'] at h; cases h)]; exact h
  · obtain ⟨rows, hl, hk, h3, nd, hr⟩ := h
    refine ⟨by show 1 ≤ sizeLine; decide, fun q hq => ⟨_, rfl, .inr (.inr (.inr ⟨q, _, [.int 0], rfl, rfl, upd_same, by omega, by omega, szl (by simp; omega), fun r hr' => ?_⟩))⟩⟩
    rw [e2, flat_rep]
    have nrq : r ≠ q := fun z => by rw [z, upd_same] at hr'; cases hr'
    have hrn : H' r = none := by rw [upd_ne nrq] at hr'; exact hr'
    have nrl : r ≠ l3 := fun z => by rw [z, h3] at hrn; cases hrn
    have nql : q ≠ l3 := fun z => by rw [z, h3] at hq; cases hq
    have hr4 : H4 r = none := by
      cases e : H4 r with
      | none => rfl
      | some o => rw [hk _ _ e] at hrn; cases hrn
    have nin : r ∉ rows := fun z => by rw [(hr r z).2.2] at hrn; cases hrn
    refine ⟨rows.map V.ref, ?_, ?_, rows ++ [r], by simp [hl], fun a o h => ?_, ?_, ?_, fun r' hr2 => ?_⟩
    · rw [upd_ne (Ne.symm nrl), upd_ne (Ne.symm nql)]; exact h3
    · exact szlt (by rw [List.length_map]; omega)
    · have h' := hk a o h
      rw [upd_ne (fun z => by rw [z, hl3'] at h; cases h), upd_ne (fun z => by rw [z, hrn] at h'; cases h'), upd_ne (fun z => by rw [z, hq] at h'; cases h')]; exact h'
    · rw [upd_same, List.map_append]; rfl
    · refine List.nodup_append.mpr ⟨nd, by simp, fun a ha b hb e => nin ?_⟩
      have e3 : b = r := by simpa using hb
      rw [← e3, ← e]; exact ha
    · rcases List.mem_append.mp hr2 with h6 | h6
      · obtain ⟨q1, q2, q3⟩ := hr r' h6
        refine ⟨q1, q2, ?_⟩
        rw [upd_ne q2, upd_ne (fun z => nin (by rw [← z]; exact h6)), upd_ne (fun z => by rw [z, hq] at q3; cases q3)]; exact q3
      · have : r' = r := by simpa using h6
        subst this
        exact ⟨hr4, nrl, by rw [upd_ne nrl, upd_same]; rfl⟩
  obtain ⟨rows, hl, hk5, h3, nd, hr5⟩ := h5
  have nl3x : l3 ≠ x := fun z => by rw [z, hx4] at hl3'; cases hl3'
  have n13 : l1 ≠ l3 := fun z => by rw [← z, hl4] at hl3'; cases hl3'
  have n23 : l2 ≠ l3 := fun z => by rw [← z, hm4] at hl3'; cases hl3'
  refine ⟨_, rfl, x, dx, _, rfl, hk5 _ _ hx4, by show 3 < 1000; decide, ?_⟩
  have hx6 : upd H5 x (.ins C dx (putF "inverse" (.ref l3) [(("scale" : Str), .int 1), (("levels" : Str), .ref l1), (("members" : Str), .ref l2)])) x = some (.ins C dx [(("scale" : Str), .int 1), (("levels" : Str), .ref l1), (("members" : Str), .ref l2), (("inverse" : Str), .ref l3)]) := upd_same
  have k6 : ∀ a o, a ≠ x → H5 a = some o → upd H5 x (.ins C dx (putF "inverse" (.ref l3) [(("scale" : Str), .int 1), (("levels" : Str), .ref l1), (("members" : Str), .ref l2)])) a = some o := fun a o ha h => by rw [upd_ne ha]; exact h
  generalize upd H5 x (.ins C dx (putF "inverse" (.ref l3) [(("scale" : Str), .int 1), (("levels" : Str), .ref l1), (("members" : Str), .ref l2)])) = H6 at hx6 k6 ⊢
  have nrx : ∀ r ∈ rows, r ≠ x := fun r hr z => by have := (hr5 r hr).1; rw [z, hx4] at this; cases this
  have hg6 : H6 g = some (.tup (goal.map V.int)) := k6 _ _ ngx (hk5 _ _ (k5 _ _ ngx hg))
  have h36 : H6 l3 = some (.lst (rows.map V.ref)) := k6 _ _ nl3x h3
  have hr6 : ∀ r ∈ rows, H4 r = none ∧ r ≠ l3 ∧ H6 r = some (.lst (zrow goal.length)) := fun r hr => ⟨(hr5 r hr).1, (hr5 r hr).2.1, k6 _ _ (nrx r hr) (hr5 r hr).2.2⟩
  -- the diagonal
  refine ⟨_, rfl, ((goal.map V.int).length : Int), rfl, by omega, by omega, ?_⟩
  rw [e2]
  refine for_range (lo := 0) (n := goal.length) (fun i σ H' => (∃ t, σ = [some (.ref x), some (.ref g), some (.int ((goal.map V.int).length : Int)), t, none, none]) ∧ (∀ a o, a ∉ rows → H6 a = some o → H' a = some o) ∧ ∀ (k : Nat) r, rows[k]? = some r → H' r = some (.lst (if k < i then irow goal k else zrow goal.length)))
    ⟨⟨none, rfl⟩, fun a o _ h => h, fun k r hr => by rw [if_neg (by omega)]; exact (hr6 r (List.mem_of_getElem? hr)).2.2⟩ ?_ ?_
  · rintro i σ H' hi ⟨⟨t, rfl⟩, hk, hr⟩
    have hgo : goal[i]? = some (goal.getD i 0) := by rw [List.getD_eq_getElem?_getD, List.getElem?_eq_getElem hi]; rfl
    obtain ⟨r, hri⟩ : ∃ r, rows[i]? = some r := ⟨rows[i]'(by omega), List.getElem?_eq_getElem _⟩
    have hrm := List.mem_of_getElem? hri
    have ngr : g ∉ rows := fun z => by have := (hr6 g z).2.2; rw [hg6] at this; cases this
    have nxr : x ∉ rows := fun z => nrx x z rfl
    have nl3r : l3 ∉ rows := fun z => (hr6 l3 z).2.1 rfl
    have e0 : (0 : Int) + (i : Int) = (i : Int) := Int.zero_add _
    have at_g : atI (goal.map V.int) (i : Int) = some (.int (goal.getD i 0)) := atI_nat (by rw [List.getElem?_map, hgo]; rfl)
    have at_r : atI (rows.map V.ref) (i : Int) = some (.ref r) := atI_nat (by rw [List.getElem?_map, hri]; rfl)
    have fin : ∀ v : Int, v = (if goal.getD i 0 < 0 then -1 else 1) →
        gSub (tOp (rIxQ K) (tFldC C (tVar 0) "inverse") (tVar 3)) (tVar 3) rSetL (.int v) [some (.ref x), some (.ref g), some (.int ((goal.map V.int).length : Int)), some (.int (i : Int)), none, none] H'
          fun σ H' => (∃ t, σ = [some (.ref x), some (.ref g), some (.int ((goal.map V.int).length : Int)), t, none, none]) ∧ (∀ a o, a ∉ rows → H6 a = some o → H' a = some o) ∧ ∀ (k : Nat) r, rows[k]? = some r → H' r = some (.lst (if k < i + 1 then irow goal k else zrow goal.length)) := by
      intro v hv
      refine ⟨_, rfl, x, dx, _, .ref l3, rfl, hk _ _ nxr hx6, rfl, ?_⟩
      refine ⟨_, rfl, .inl ⟨l3, _, _, _, rfl, rfl, SqL.of (hk _ _ nl3r h36), at_r, ?_⟩⟩
      have hrow := hr i r hri
      rw [if_neg (by omega)] at hrow
      refine ⟨_, rfl, r, _, _, i, rfl, rfl, hrow, by rw [show (zrow goal.length).length = goal.length from List.length_replicate ..]; exact ixN_nat hi, ⟨_, rfl⟩, fun a o ha h => ?_, fun k r' hkr => ?_⟩
      · rw [upd_ne (fun z => ha (by rw [z]; exact hrm))]; exact hk a o ha h
      · by_cases q : k = i
        · subst q
          rw [hri] at hkr; cases hkr
          rw [upd_same, if_pos (by omega), hv]; rfl
        · have : r' ≠ r := fun z => q (by
            have h7 := (List.getElem?_eq_some_iff.mp hkr).1
            subst z
            exact (List.getElem?_inj h7 nd).mp (hkr.trans hri.symm))
          rw [upd_ne this, hr k r' hkr]
          by_cases z : k < i
          · rw [if_pos z, if_pos (by omega)]
          · rw [if_neg z, if_neg (by omega)]
    rw [e0]
    refine ⟨_, rfl, _, rfl, .inr ⟨g, _, _, _, rfl, rfl, SqT.of (hk _ _ ngr hg6), at_g, _, _, rfl, rfl, _, rfl, ?_⟩⟩
    by_cases q : goal.getD i 0 < 0
    · dsimp only
      rw [if_pos (decide_eq_true q)]
      exact ⟨_, rfl, fin (-1) (by rw [if_pos q])⟩
    · dsimp only
      rw [if_neg (by rw [decide_eq_true_iff]; exact q)]
      exact fin 1 (by rw [if_neg q])
  · rintro σ H' ⟨_, hk, hr⟩
    have nr : ∀ a, H4 a ≠ none → a ∉ rows := fun a ha z => ha (hr6 a z).1
    refine hQ H' l1 l2 l3 rows { keep := fun a o ha h => ?_, ob := ?_, f1 := f1, f2 := z3 _ hl3, f3 := z4 _ hl3', n12 := n12, n13 := n13, n23 := n23, h1 := ?_, h2 := ?_, h3 := ?_, len := hl, rw_ := fun k r hkr => ?_ }
    · have h4 := k5 a o ha h
      exact hk a o (nr a (by rw [h4]; exact fun z => by cases z)) (k6 _ _ ha (hk5 _ _ h4))
    · exact hk _ _ (nr x (by rw [hx4]; exact fun z => by cases z)) hx6
    · have : (BSt.new goal).levels.map V.int = goal.map fun z => V.int (if z < 0 then -z else z) := by
        show ((goal.map fun z => if z < 0 then -z else z)).map V.int = _
        rw [List.map_map]; rfl
      rw [this]
      exact hk _ _ (nr l1 (by rw [hl4]; exact fun z => by cases z)) (k6 _ _ nl1x (hk5 _ _ hl4))
    · have : (BSt.new goal).members.map memV = List.replicate goal.length V.non := by
        show (List.replicate goal.length none).map memV = _
        rw [List.map_replicate]; rfl
      rw [this]
      exact hk _ _ (nr l2 (by rw [hm4]; exact fun z => by cases z)) (k6 _ _ nl2x (hk5 _ _ hm4))
    · exact hk _ _ (fun z => (hr6 l3 z).2.1 rfl) h36
    · have hm := List.mem_of_getElem? hkr
      have h7 := (List.getElem?_eq_some_iff.mp hkr).1
      have h8 := hr k r hkr
      rw [if_pos (by omega)] at h8
      refine ⟨z4 _ (hr6 r hm).1, fun z => ?_, fun z => ?_, (hr6 r hm).2.1, h8⟩
      · have := (hr6 r hm).1; rw [z, hl4] at this; cases this
      · have := (hr6 r hm).1; rw [z, hm4] at this; cases this
end Lf
set_option Elab.async false
set_option linter.all false
set_option maxRecDepth 100000
set_option maxHeartbeats 4000000
/-! A name gets a new basis -/
namespace Lf
open PySem PySem.Spec PyProof.Rows L2 RZ
theorem EnvF.newO {Hs Fr H : Hp} {σ : L2.St} {env : Env} {fp : Nat → List Addr} (r : EnvF Hs Fr H σ env fp) (i : Nat) {v : V} {w : Ow} {fp' : List Addr} (h : w.At Hs H v fp') (hf : ∀ a ∈ fp', Fr a = none) (hn : ∀ (j : Nat) e, env[j]? = some (some e) → ∀ a ∈ fp j, a ∉ fp') :
    EnvF Hs Fr H (σ.set i (some v)) (env.set i (some (.o w))) (fun j => if j = i then fp' else fp j) := by
  refine ⟨by simp [r.len], fun j e he => ?_, fun j e he a ha => ?_, fun j k e e' hjk h1 h2 a ha => ?_⟩
  · by_cases q' : j = i
    · subst q'
      have hl : j < env.length := by
        have := (List.getElem?_eq_some_iff.mp he).1
        simpa using this
      rw [List.getElem?_set_self hl] at he
      cases he
      exact ⟨_, List.getElem?_set_self (by rw [r.len]; exact hl), by show w.At Hs H v (if j = j then fp' else fp j); rw [if_pos rfl]; exact h⟩
    · rw [List.getElem?_set_ne (Ne.symm q')] at he
      obtain ⟨u, h1, h2⟩ := r.at_ j e he
      exact ⟨u, by rw [List.getElem?_set_ne (Ne.symm q')]; exact h1, by simp only [if_neg q']; exact h2⟩
  · by_cases q' : j = i
    · rw [if_pos q'] at ha
      exact hf a ha
    · rw [if_neg q'] at ha
      rw [List.getElem?_set_ne (Ne.symm q')] at he
      exact r.fr j e he a ha
  · by_cases q' : j = i
    · rw [if_pos q'] at ha
      have hk : k ≠ i := fun z => hjk (q'.trans z.symm)
      rw [if_neg hk]
      rw [List.getElem?_set_ne (Ne.symm hk)] at h2
      exact fun z => hn k e' h2 a z ha
    · rw [if_neg q'] at ha
      rw [List.getElem?_set_ne (Ne.symm q')] at h1
      by_cases q2 : k = i
      · rw [if_pos q2]
        exact hn j e h1 a ha
      · rw [if_neg q2]
        rw [List.getElem?_set_ne (Ne.symm q2)] at h2
        exact r.dis j k e e' hjk h1 h2 a ha
def tMkB (C : Addr) (i j : Nat) : TS := tAsg (tMake C (initSp C) [] E0 (tCons (tVar j) tNil)) (gName i)
theorem ps_mkB {X : Cx} {st : Stmt} {C : Addr} {i j : Nat} (h : PS X st (tAsg (tMake C (initSp C) [] E0 (tCons (tVar j) tNil)) (gName i))) : PS X st (tMkB C i j) := h
def dMkB (C : Addr) (i j : Nat) : DS := fun env E => ∃ goal : List Int, env[j]? = some (some (.d (.tup (goal.map .int)))) ∧ goal.length ≤ 60 ∧ free env i = true ∧ E.nx (env.set i (some (.o (bas C (BSt.new goal)))))
theorem irow_eq {goal : List Int} {k : Nat} (h : k < goal.length) {r : List Int} (hr : (BSt.new goal).inverse[k]? = some r) : irow goal k = r.map V.int := by
  have e : r = (List.range goal.length).map fun i => if i = k then (if goal.getD k 0 < 0 then -1 else 1) else 0 := by
    have h2 : (BSt.new goal).inverse[k]? = some ((List.range goal.length).map fun i => if i = k then (if goal.getD k 0 < 0 then -1 else 1) else 0) := by
      show ((List.range goal.length).map fun k => (List.range goal.length).map fun i => if i = k then (if goal.getD k 0 < 0 then -1 else 1) else 0)[k]? = _
      rw [List.getElem?_map, List.getElem?_range h]; rfl
    rw [h2] at hr; exact (Option.some.inj hr).symm
  subst e
  apply List.ext_getElem?
  intro i
  unfold irow zrow
  rw [List.getElem?_set, List.length_replicate, List.getElem?_replicate]
  by_cases hi : i < goal.length
  · rw [List.getElem?_map, List.getElem?_map, List.getElem?_range hi]
    by_cases q : k = i
    · subst q; simp [hi]
    · have q2 : ¬ i = k := fun z => q z.symm
      simp [q, q2, hi]
  · rw [List.getElem?_eq_none (by simp; omega)]
    have q : ¬ k = i := by omega
    simp [q, hi]
theorem new_gn {goal : List Int} {l1 l2 l3 : Addr} : ∀ f, (BSt.new goal).flds.lookup f = none → [(("scale" : Str), V.int 1), (("levels" : Str), .ref l1), (("members" : Str), .ref l2), (("inverse" : Str), .ref l3)].lookup f = none := fun f hf => by
  unfold BSt.flds at hf
  simp only [List.lookup] at hf ⊢
  split at hf
  · cases hf
  · split at hf
    · cases hf
    · split at hf
      · cases hf
      · split at hf
        · cases hf
        · rfl
instance {C : Addr} {i j : Nat} : AbsS (tMkB C i j) (dMkB C i j) := ⟨fun σ Hs Fr H env D E er sf fh h kn kr kb kc => by
  obtain ⟨goal, hg, n60, hfree, hE⟩ := h
  obtain ⟨v, hv, rv⟩ := er.dat hg
  obtain ⟨a, vs, rfl, ha, ra⟩ := rv.tup_inv
  have ev := ints_of ra
  subst ev
  have haH : H a = some (.tup (goal.map V.int)) := (sf.trans fh) _ _ ha
  obtain ⟨fp, r⟩ := er
  refine ⟨_, hv, fun x dx hx hdx ne => ?_⟩
  have nax : a ≠ x := fun z => by rw [z, hx] at haH; cases haH
  have nad : a ≠ dx := fun z => by rw [z, hdx] at haH; cases haH
  refine ⟨x, dx, a, goal, rfl, upd_same, by rw [upd_ne nax, upd_ne nad]; exact haH, n60, fun H' l1 l2 l3 rows M => ⟨rfl, ?_⟩⟩
  have base : ∀ b o, H b = some o → upd (upd H dx (.own x)) x (.ins C dx []) b = some o := fun b o h => by
    rw [upd_ne (fun z => by rw [z, hx] at h; cases h), upd_ne (fun z => by rw [z, hdx] at h; cases h)]; exact h
  have fresh : ∀ b, upd (upd H dx (.own x)) x (.ins C dx []) b = none → H b = none ∧ b ≠ x ∧ b ≠ dx := fun b h => by
    have n1 : b ≠ x := fun z => by rw [z, upd_same] at h; cases h
    rw [upd_ne n1] at h
    have n2 : b ≠ dx := fun z => by rw [z, upd_same] at h; cases h
    rw [upd_ne n2] at h
    exact ⟨h, n1, n2⟩
  have hh : Same H H' := fun b o h => M.keep b o (fun z => by rw [z, hx] at h; cases h) (base b o h)
  have hd' : H' dx = some (.own x) := M.keep _ _ ne (by rw [upd_ne ne, upd_same])
  obtain ⟨z1, z1x, z1d⟩ := fresh _ M.f1
  obtain ⟨z2, z2x, z2d⟩ := fresh _ M.f2
  obtain ⟨z3, z3x, z3d⟩ := fresh _ M.f3
  have rfree : ∀ b ∈ rows, H b = none ∧ b ≠ x ∧ b ≠ dx ∧ b ≠ l1 ∧ b ≠ l2 ∧ b ≠ l3 := fun b hb => by
    obtain ⟨k, hk⟩ := List.mem_iff_getElem?.mp hb
    obtain ⟨q1, q2, q3, q4, _⟩ := M.rw_ k b hk
    obtain ⟨q5, q6, q7⟩ := fresh _ q1
    exact ⟨q5, q6, q7, q2, q3, q4⟩
  have fr0 : ∀ b ∈ rows, Fr b = none := fun b hb => none_of fh (rfree b hb).1
  have hs0 : ∀ b ∈ rows, Hs b = none := fun b hb => none_of sf (fr0 b hb)
  have g : Gr Hs Fr H (both Hs H' rows) (both Fr H' rows) H' :=
    ⟨⟨both_same, both_same, fun b h1 h2 => by
      have : b ∉ rows := fun z => h1 (fr0 b z)
      rw [both_out this]; exact h2⟩, hh, both_both sf fr0, both_heap (fh.trans hh), fun b h1 h2 => by
      have : b ∉ rows := fun z => h1 (rfree b z).1
      rw [both_out this]; exact h2⟩
  have out : ∀ b, H b = none → b ∉ rows → both Fr H' rows b = none := fun b h1 h2 => by rw [both_out h2]; exact none_of fh h1
  have atB : (bas C (BSt.new goal)).At (both Hs H' rows) H' (.ref x) [x, dx, l1, l2, l3] := by
    refine ⟨x, dx, l1, l2, l3, _, rows.map V.ref, { ev := rfl, ef := rfl, n12 := M.n12, n13 := M.n13, n23 := M.n23, hp := M.ob, hd := hd', few := by show 4 < 1000; decide, g0 := rfl, g1 := rfl, g2 := rfl, g3 := rfl, gn := new_gn, h1 := M.h1, h2 := M.h2, h3 := M.h3, hr := ?_ }⟩
    have li : (BSt.new goal).inverse.length = goal.length := by
      show ((List.range goal.length).map _).length = _
      rw [List.length_map, List.length_range]
    refine ⟨by rw [List.length_map, List.length_map, li, M.len], fun k v d h1 h2 => ?_⟩
    rw [List.getElem?_map] at h1 h2
    cases q : rows[k]? with
    | none => rw [q] at h1; cases h1
    | some b =>
      rw [q] at h1; cases h1
      cases q2 : (BSt.new goal).inverse[k]? with
      | none => rw [q2] at h2; cases h2
      | some rr =>
        rw [q2] at h2; cases h2
        have hk : k < goal.length := by have := (List.getElem?_eq_some_iff.mp q2).1; omega
        have hb := List.mem_of_getElem? q
        obtain ⟨_, _, _, _, h5⟩ := M.rw_ k b q
        rw [irow_eq hk q2] at h5
        exact rp_ints (by rw [both_in hb (hs0 b hb)]; exact h5)
  have mem5 : ∀ b ∈ [x, dx, l1, l2, l3], H b = none ∧ b ∉ rows := fun b hb => by
    have : b = x ∨ b = dx ∨ b = l1 ∨ b = l2 ∨ b = l3 := by simpa using hb
    rcases this with rfl | rfl | rfl | rfl | rfl
    · exact ⟨hx, fun z => (rfree _ z).2.1 rfl⟩
    · exact ⟨hdx, fun z => (rfree _ z).2.2.1 rfl⟩
    · exact ⟨z1, fun z => (rfree _ z).2.2.2.1 rfl⟩
    · exact ⟨z2, fun z => (rfree _ z).2.2.2.2.1 rfl⟩
    · exact ⟨z3, fun z => (rfree _ z).2.2.2.2.2 rfl⟩
  have r2 := r.gr g
  refine kn _ _ _ _ H' ⟨_, r2.newO i atB (fun b hb => out b (mem5 b hb).1 (mem5 b hb).2) (fun k e he b hb hm => ?_)⟩ g.st g.sf g.fh (.set _ _ hfree) hE
  obtain ⟨u, h1, h2⟩ := r.at_ k e he
  exact En.known h2 b hb (mem5 b hm).1⟩
theorem st_mkB {C : Addr} {i j : Nat} {env : Env} {E : DEnds} {goal : List Int} (h : env[j]? = some (some (.d (.tup (goal.map .int))))) (l : goal.length ≤ 60) (f : free env i = true) (k : E.nx (env.set i (some (.o (bas C (BSt.new goal)))))) : dMkB C i j env E := ⟨goal, h, l, f, k⟩
end Lf
set_option Elab.async false
set_option linter.all false
set_option maxRecDepth 100000
set_option maxHeartbeats 4000000
/-! Calls with keywords; the script of a law; the object that a law draws from, made -/
namespace Lf
open PySem PySem.Spec PyProof.Rows L2 RZ
/-! ### f(e, .., k = v, ..) of a def without defaults -/
/-- how the values are put: the keywords' behind the others, or turned about -/
inductive KG where
  | app | rev
def KG.of {α : Type} : KG → List α → List α → List α
  | .app, us, ws => us ++ ws
  | .rev, us, ws => us ++ ws.reverse
theorem vals_app : ∀ {vs ws : List V} {us zs : List Value}, Vals vs us → Vals ws zs → Vals (vs ++ ws) (us ++ zs)
  | _, _, _, _, .nil, h => h
  | _, _, _, _, .cons r t, h => .cons r (vals_app t h)
theorem vals_rev : ∀ {vs : List V} {us : List Value}, Vals vs us → Vals vs.reverse us.reverse
  | _, _, .nil => .nil
  | _, _, .cons r t => by
    rw [List.reverse_cons, List.reverse_cons]
    exact vals_app (vals_rev t) (.cons r .nil)
theorem KG.rel {kg : KG} {vs zs : List V} {us ws : List Value} (r : Vals vs us) (t : Vals zs ws) : Vals (kg.of vs zs) (kg.of us ws) := by
  cases kg with
  | app => exact vals_app r t
  | rev => exact vals_app r (vals_rev t)
theorem RpA.rev {H : Hp} : ∀ {vs : List V} {ds : List D}, RpA H vs ds → RpA H vs.reverse ds.reverse
  | [], [], _ => .nil
  | [], _ :: _, r => by have := r.1; simp at this
  | _ :: _, [], r => by have := r.1; simp at this
  | v :: vs, d :: ds, r => by
    rw [List.reverse_cons, List.reverse_cons]
    exact (RpA.rev ⟨by have := r.1; simpa using this, fun i x e h1 h2 => r.2 (i + 1) x e (by simpa using h1) (by simpa using h2)⟩).snoc (r.2 0 v d rfl rfl)
theorem KG.rpa {kg : KG} {H : Hp} {vs zs : List V} {ds es : List D} (r : RpA H vs ds) (t : RpA H zs es) : RpA H (kg.of vs zs) (kg.of ds es) := by
  cases kg with
  | app => exact r.append t
  | rev => exact r.append t.rev
section
variable {K : PySem.W.Frag} {x qual : Str} {params : Arguments} {body : List Stmt} {scope : Scope} {f : Addr} {fd : FuncData} {ps : List Str}
theorem kbG (F : FunD K x qual params body scope [] [] f fd) (kg : KG) (n : Nat) (ks : List Str)
    (h : ∀ (kV doc pm : Value) (an : Option Addr) (cdv ct : Value) (us ws : List Value), us.length = n → ws.length = ks.length → bindArgs (PySem.W.fnOf x qual params body scope .none kV doc pm an cdv ct) ⟨us, ks.zip ws⟩ = pure (ps.zip (kg.of us ws))) :
    KBn K fd ps n ks (KG.of kg) (KG.of kg) := by
  obtain ⟨oc, od, dV, kV, doc, pm, an, cdv, ct, osl, rfl, lk, hcd, hD, hK⟩ := F.ex
  rcases hD with ⟨_, rfl⟩ | ⟨e, _⟩
  · exact ⟨fun s us ws _ l1 l2 => .of_eq (h kV doc pm an cdv ct us ws l1 l2), KG.rel⟩
  · exact absurd rfl e
end
section
variable {X : Cx} {CX : CXT} {k n : Nat} {f : Addr} {fd : FuncData} {ps ks : List Str} {sp : Sp} {E : XK} {x : Str} {p pos : Pos} {e : Expr} {es : List Expr} {kws : List Keyword} {t tk : TA} {g : List Value → List Value → List Value} {gV : List V → List V → List V}
/-- f(k = v, ..) -/
theorem pe_callN0 (F : FnOk X.prog X.w X.K X.mg X.base CX k f fd ps sp) (hr : Room k X.A) (hg : Gl X x) (hm : X.mg x = some (.ref f)) (hk : PySem.W.keepIn X.K (.ref f) = true) (hb : KBn X.K fd ps 0 ks g gV) (hx : Passes CX X E)
    (hkw : PK X kws tk) (hall : (backToKw pos (keywordEach kws X.env)).all (·.1.isSome) = true := by rfl) (hks : (backToKw pos (keywordEach kws X.env)).filterMap (·.1) = ks := by rfl)
    (hdb : (x == ("__debug__" : Str)) = false := by decide)
    (hpl : ((backTo pos (starEach [] X.env)).any (·.1) || (backToKw pos (keywordEach kws X.env)).any (·.1.isNone)) = false := by rfl) :
    PE X (.Call (.Name x p) [] kws pos) (tCallN 0 ks.length sp gV E tNil tk) := by
  refine ⟨fun pins s σ H Q I h => ?_⟩
  refine wpAny_Call_Name_kw (ld_glob I hg hm ?_ hdb)
  refine PySem.W.callWith_KW0 (h₀ := X.base) I.ok.mod.kin hk hall ?_ hpl
  refine thn (hkw.run pos pins s σ H _ I h) fun ws s2 ⟨zs, H2, I2, rz, l1, l2, q2⟩ => ⟨I2.kIn, ?_⟩
  rw [hks]
  exact run_fnN (us := []) (vs := []) F hr hb hx I2 .nil rz rfl l2 q2
end
/-- what a def promises of calls with keywords -/
def FnK (P : Program) (w : World) (K : PySem.W.Frag) (mg : Str → Option Value) (base : Heap) (k : Nat) (x : Str) (ps : List Str) (sp : Sp) (kg : KG) (n : Nat) (ks : List Str) : Prop :=
  ∃ f fd, FnOk P w K mg base CX0 k f fd ps sp ∧ KBn K fd ps n ks (KG.of kg) (KG.of kg) ∧ mg x = some (.ref f) ∧ PySem.W.keepIn K (.ref f) = true
def tCallG (kg : KG) (n m : Nat) (sp : Sp) (t tk : TA) : TE := tCallN n m sp (KG.of kg) E0 t tk
section
variable {X : Cx} {k n : Nat} {ps ks : List Str} {sp : Sp} {kg : KG} {x : Str} {p pos : Pos} {e : Expr} {es : List Expr} {kws : List Keyword} {t tk : TA}
theorem pe_fk (F : FnK X.prog X.w X.K X.mg X.base k x ps sp kg n ks) (hr : Room k X.A) (hg : Gl X x) (ha : PA X (e :: es) t) (hkw : PK X kws tk)
    (hall : (backToKw pos (keywordEach kws X.env)).all (·.1.isSome) = true := by rfl) (hks : (backToKw pos (keywordEach kws X.env)).filterMap (·.1) = ks := by rfl)
    (hdb : (x == ("__debug__" : Str)) = false := by decide) (he : starEach (e :: es) X.env = (false, eval e X.env) :: starEach es X.env := by rfl)
    (hpl : ((backTo pos (starEach (e :: es) X.env)).any (·.1) || (backToKw pos (keywordEach kws X.env)).any (·.1.isNone)) = false := by rfl) :
    PE X (.Call (.Name x p) (e :: es) kws pos) (tCallG kg n ks.length sp t tk) := by
  obtain ⟨f, fd, F, hb, hm, hk⟩ := F
  exact pe_callN F hr hg hm hk hb pass0 ha hkw hall hks hdb he hpl
theorem pe_fk0 (F : FnK X.prog X.w X.K X.mg X.base k x ps sp kg 0 ks) (hr : Room k X.A) (hg : Gl X x) (hkw : PK X kws tk)
    (hall : (backToKw pos (keywordEach kws X.env)).all (·.1.isSome) = true := by rfl) (hks : (backToKw pos (keywordEach kws X.env)).filterMap (·.1) = ks := by rfl)
    (hdb : (x == ("__debug__" : Str)) = false := by decide)
    (hpl : ((backTo pos (starEach [] X.env)).any (·.1) || (backToKw pos (keywordEach kws X.env)).any (·.1.isNone)) = false := by rfl) :
    PE X (.Call (.Name x p) [] kws pos) (tCallG kg 0 ks.length sp tNil tk) := by
  obtain ⟨f, fd, F, hb, hm, hk⟩ := F
  exact pe_callN0 F hr hg hm hk hb pass0 hkw hall hks hdb hpl
end
def dCallG (kg : KG) (n m k : Nat) (pw : PW) (da dk : DA) : DE := fun env C => da env fun ds env1 => dk env1 fun es env2 => ds.length = n ∧ es.length = m ∧ (kg.of ds es).length = k ∧ pw (kg.of ds es) fun d => C d env2
instance {kg : KG} {n m k : Nat} {pw : PW} {t tk : TA} {da dk : DA} [ha : AbsA t da] [hk : AbsA tk dk] : AbsE (tCallG kg n m (PSp k pw) t tk) (dCallG kg n m k pw da dk) := ⟨fun σ Hs Fr H env Q C er sf fh h kk => by
  refine ha.run σ Hs Fr H env _ _ er sf fh h fun vs ds env1 Hs1 Fr1 H1 r1 s1 sf1 fh1 ra hc => ?_
  refine hk.run σ Hs1 Fr1 H1 env1 _ _ r1 sf1 fh1 hc fun zs es env2 Hs2 Fr2 H2 r2 s2 sf2 fh2 rz hc2 => ?_
  obtain ⟨h1, h2, h3, hp⟩ := hc2
  have rA : RpA Hs2 (kg.of vs zs) (kg.of ds es) := KG.rpa (ra.mono s2.s) rz
  obtain ⟨fp, rf⟩ := r2
  have hP := rf.ownedP (fun _ => False)
  refine ⟨by rw [ra.1]; exact h1, by rw [rz.1]; exact h2, by rw [rA.1]; exact h3, Hs2, frC Fr2 H2 (Owned env2 fp fun _ => False), _, _, sf2.trans frC_keep, frC_heap fh2, rA, hp, fun v d Hs' Fr' H' s' sf' fh' rv c => ?_⟩
  have A := after sf2 hP s' sf' fh'
  refine kk v d env2 Hs' _ H' ⟨fp, rf.len, fun i e he => ?_, fun i e he a ha => ?_, rf.dis⟩ ((s1.trans s2).trans A.st) A.sf A.fh rv c
  · obtain ⟨u, h1, h2⟩ := rf.at_ i e he
    exact ⟨u, h1, En.mono h2 s'.s fun a ha => A.at_ a ⟨i, e, id, he, ha⟩⟩
  · have z : Owned env2 fp (fun _ => False) a := ⟨i, e, id, he, ha⟩
    show frD Fr' _ a = none
    unfold frD
    simp only [z, if_true]⟩
theorem ev_callG {env : Env} {kg : KG} {n m k : Nat} {pw : PW} {da dk : DA} {ds es : List D} {d : D} (h1 : EvA da env ds) (h2 : EvA dk env es) (l1 : ds.length = n) (l2 : es.length = m) (l3 : (kg.of ds es).length = k)
    (h : ∀ C : D → Prop, C d → pw (kg.of ds es) C) : Ev (dCallG kg n m k pw da dk) env d := fun C q => h1 _ fun _ e => by
  subst e
  exact h2 _ fun _ e => by
    subst e
    exact ⟨l1, l2, l3, h _ (q _ rfl)⟩
/-! ### the script -/
theorem rd_mono {H H' : Hp} {a : Addr} {u : HO} (s : Same H H') (h : Rd H a u) : Rd H' a u := by
  rcases h with h | ⟨o, h⟩
  · exact .inl (s _ _ h)
  · exact .inr ⟨o, s _ _ h⟩
theorem sqL_mono {K : PySem.W.Frag} {H H' : Hp} {a : Addr} {xs : List V} (s : Same H H') (h : SqL K H a xs) : SqL K H' a xs := by
  rcases h with h | h
  · exact .inl (rd_mono s h)
  · exact .inr h
def scrO (K : PySem.W.Frag) (ns : List Int) : Ow where
  At := fun Hs H v fp => fp = [] ∧ ∃ a, v = .ref a ∧ SqL K Hs a (ns.map V.int)
  mono := fun ⟨e, a, h1, h2⟩ s _ => ⟨e, a, h1, sqL_mono s h2⟩
  known := fun ⟨e, _⟩ a ha => by rw [e] at ha; simp at ha
theorem rpa_ints {H : Hp} (ns : List Int) : RpA H (ns.map V.int) (ns.map D.int) := ⟨by simp, fun i v d h1 h2 => by
  rw [List.getElem?_map] at h1 h2
  cases q : ns[i]? with
  | none => rw [q] at h1; cases h1
  | some z => rw [q] at h1 h2; cases h1; cases h2; exact .int z⟩
/-- for x in script -/
def tScr (K : PySem.W.Frag) (i : Nat) : TI := iSeq K (tVar i)
theorem pi_scr {X : Cx} {tg l : Expr} {i : Nat} (h : PI X tg l (iSeq X.K (tVar i))) : PI X tg l (tScr X.K i) := h
def diScr (K : PySem.W.Frag) (i : Nat) : DI := fun env C => ∃ ns, env[i]? = some (some (.o (scrO K ns))) ∧ C (ns.map .int) env
instance {K : PySem.W.Frag} {i : Nat} : AbsI (tScr K i) (diScr K i) := ⟨fun σ Hs Fr H env R C er sf fh hd k => by
  obtain ⟨ns, hw, h⟩ := hd
  have er0 := er
  obtain ⟨fp, r⟩ := er
  obtain ⟨v, hv, _, a, rfl, hS⟩ := r.val hw
  refine ⟨_, hv, .inl ⟨a, rfl, ⟨_, sqL_mono (sf.trans fh) hS⟩, k _ _ env Hs Fr H er0 (Stp.refl _ _) sf fh ?_ h⟩⟩
  have q := rpa_ints (H := Hs) ns
  have len := q.1
  refine ⟨fun j H' hj fh' => ?_, fun j H' hj fh' => ?_, fun Hs2 Fr2 H2 j x H' s f sf2 fh2 hj y => ?_⟩
  · exact ⟨ns.map V.int, (ns.map V.int)[j]'(by omega), sqL_mono (sf.trans fh') hS, List.getElem?_eq_getElem _⟩
  · exact ⟨ns.map V.int, sqL_mono (sf.trans fh') hS, by omega⟩
  · obtain ⟨rfl, y⟩ := y
    have := y (ns.map V.int) (sqL_mono (s.trans (sf2.trans fh2)) hS)
    obtain ⟨d, hd, rd⟩ := q.at this
    exact ⟨d, Hs2, Fr2, hd, Gr.refl sf2 fh2, rd.mono s⟩⟩
/-- len(script) -/
def tLenS (K : PySem.W.Frag) (i : Nat) : TE := tCB (rLenQ K) (tCons (tVar i) tNil)
theorem pe_lenS {X : Cx} {K : PySem.W.Frag} {e : Expr} {i : Nat} (h : PE X e (tCB (rLenQ K) (tCons (tVar i) tNil))) : PE X e (tLenS K i) := h
def dLenS (K : PySem.W.Frag) (i : Nat) : DE := fun env C => ∃ ns, env[i]? = some (some (.o (scrO K ns))) ∧ C (.int ns.length) env
instance {K : PySem.W.Frag} {i : Nat} : AbsE (tLenS K i) (dLenS K i) := ⟨fun σ Hs Fr H env Q C er sf fh h k => by
  obtain ⟨ns, hw, h⟩ := h
  have er0 := er
  obtain ⟨fp, r⟩ := er
  obtain ⟨v, hv, _, a, rfl, hS⟩ := r.val hw
  refine ⟨_, hv, a, _, rfl, .inl (sqL_mono (sf.trans fh) hS), k _ _ env Hs Fr H er0 (Stp.refl _ _) sf fh ?_ h⟩
  rw [List.length_map]
  exact .int _⟩
theorem ev_lenS {K : PySem.W.Frag} {env : Env} {i : Nat} {ns : List Int} (h : env[i]? = some (some (.o (scrO K ns)))) : Ev (dLenS K i) env (.int ns.length) := fun C k => ⟨ns, h, k _ rfl⟩
theorem ei_scr {K : PySem.W.Frag} {env : Env} {i : Nat} {ns : List Int} (h : env[i]? = some (some (.o (scrO K ns)))) : EvI (diScr K i) env (ns.map .int) := fun C k => ⟨ns, h, k _ rfl⟩
end Lf
set_option Elab.async false
set_option linter.all false
set_option maxRecDepth 100000
set_option maxHeartbeats 4000000
/-! The object that a law draws from, made -/
namespace Lf
open PySem PySem.Spec PyProof.Rows L2 RZ
def drwKvs (l c : Addr) : List (Key × V) := [(Sum.inr ("large" : Str), .ref l), (Sum.inr ("cells" : Str), .ref c), (Sum.inr ("rest" : Str), .int 0), (Sum.inr ("turn" : Str), .int 0)]
structure Begun (H H' : Hp) (p l c : Addr) (large cells : List Int) : Prop where
  keep : Same H H'
  np : H p = none
  nl : H l = none
  nc : H c = none
  npl : p ≠ l
  npc : p ≠ c
  nlc : l ≠ c
  ob : H' p = some (.dK (drwKvs l c))
  hl : H' l = some (.lst (large.map V.int))
  hc : H' c = some (.lst (cells.map V.int))
  l0 : ∀ x ∈ large, 0 ≤ x
  c0 : ∀ x ∈ cells, 0 ≤ x
def begunSp (K : PySem.W.Frag) : Sp := fun vs H Q _ => ∃ (a : Addr) (ns : List Int), vs = [.ref a] ∧ SqL K H a (ns.map V.int) ∧ ns.length ≤ 1000 ∧ ∀ H' p l c large cells, Begun H H' p l c large cells → Q (.ref p) H'
abbrev tBig : TE := tOp (rI CPow fun i j => .int (i ^ j.toNat)) (tC (.int 10)) (tC (.int 18))
abbrev tAbsC : TE := tCB rAbs (tCons (tVar 2) tNil)
def tBegun (K : PySem.W.Frag) : TS :=
  tSeq (tAsgO (tLc (tScr K 0) (gName 2) (tTest (tOp (rI0 fun i j => .bl (decide (j ≤ i))) tAbsC tBig)) (tOp (rI0 fun i j => .int (i - j)) tAbsC tBig) [2]) 1)
    (tRet (tDisp [(tC (.str "large"), tVar 1), (tC (.str "cells"), tLc (tScr K 0) (gName 2) tYes tAbsC [2]), (tC (.str "rest"), tC (.int 0)), (tC (.str "turn"), tC (.int 0))]))
theorem take_at {α : Type} {xs : List α} {i : Nat} {x : α} (h : xs[i]? = some x) : xs.take (i + 1) = xs.take i ++ [x] := take_next h
theorem big_eq : (10 : Int) ^ (18 : Int).toNat = 1000000000000000000 := by decide +kernel
theorem ev_absC {env : Env} {z : Int} (h : env[2]? = some (some (.d (.int z)))) : Ev (dCB dAbs (dCons (dVar 2) dNil)) env (.int z.natAbs) := fun C k => by
  refine ⟨_, h, ?_⟩
  have e : (if z < 0 then -z else z) = (z.natAbs : Int) := by split <;> omega
  refine ⟨z, rfl, ?_⟩
  rw [e]; exact k _ rfl
theorem begun_pure {K : PySem.W.Frag} {vs : List V} {H : Hp} {Q : VK} {E : XK} (h : begunSp K vs H Q E) : tBegun K { nx := fun _ H' => Q .non H', rt := Q } (start ["script", "large", "cell"] vs) H := by
  obtain ⟨a, ns, rfl, hS, hl, hQ⟩ := h
  have er : EnvF H H H (start ["script", "large", "cell"] [.ref a]) [some (.o (scrO K ns)), none, none] (fun _ => []) := by
    refine ⟨rfl, fun i e he => ?_, fun i e he x hx => by simp at hx, fun i j e e' _ _ _ x hx => by simp at hx⟩
    match i, he with
    | 0, he => cases he; exact ⟨_, rfl, rfl, a, rfl, hS⟩
    | 1, he => simp at he
    | 2, he => simp at he
    | i + 3, he => simp at he
  let R : List D → Prop := fun xs => ∃ large : List Int, xs = large.map .int ∧ ∀ x ∈ large, 0 ≤ x
  have big : ∀ env : Env, Ev (dOp (rIIc CPow fun i j => i ^ j.toNat) (dC (.int 10)) (dC (.int 18))) env (.int 1000000000000000000) := fun env => ev_op ev_c ev_c fun C k => ⟨10, 18, rfl, rfl, ⟨by decide, by decide, by decide⟩, by show C (.int ((10 : Int) ^ (18 : Int).toNat)); rw [big_eq]; exact k⟩
  have i1 : AbsS (tAsgO (tLc (tScr K 0) (gName 2) (tTest (tOp (rI0 fun i j => .bl (decide (j ≤ i))) tAbsC tBig)) (tOp (rI0 fun i j => .int (i - j)) tAbsC tBig) [2]) 1)
    (dAsgO (dLcN (diScr K 0) (dgN 2) [2] (dTest (dOp (rIB fun i j => decide (j ≤ i)) (dCB dAbs (dCons (dVar 2) dNil)) (dOp (rIIc CPow fun i j => i ^ j.toNat) (dC (.int 10)) (dC (.int 18))))) (dOp (rII fun i j => i - j) (dCB dAbs (dCons (dVar 2) dNil)) (dOp (rIIc CPow fun i j => i ^ j.toNat) (dC (.int 10)) (dC (.int 18)))) [2]) 1) := inferInstance
  have i2 : AbsN (tLc (tScr K 0) (gName 2) tYes tAbsC [2]) (dLcN (diScr K 0) (dgN 2) [2] dYes (dCB dAbs (dCons (dVar 2) dNil)) [2]) := inferInstance
  refine i1.run _ H H H _ _ { nx := fun env => ∃ large : List Int, (∀ x ∈ large, 0 ≤ x) ∧ env = [some (.o (scrO K ns)), some (.l (large.map .int)), none], rt := fun _ _ => False } ⟨_, er⟩ (Same.refl _) (Same.refl _) ?_ ?_ (fun _ _ _ _ _ _ _ _ _ _ _ _ _ h => h.elim) (fun _ _ _ _ _ _ _ _ _ _ h => h.elim) (fun _ _ _ _ _ _ _ _ _ _ h => h.elim)
  · refine ⟨by simp, ns, rfl, by simp; omega, rfl, fun _ acc => R acc, ⟨[], rfl, by simp⟩, fun i acc _ hacc => ⟨fun x hx => ?_, fun e => ?_⟩⟩
    · obtain ⟨z, _, rfl⟩ : ∃ z, ns[i]? = some z ∧ x = .int z := by
        rw [List.getElem?_map] at hx
        cases q : ns[i]? with
        | none => rw [q] at hx; cases hx
        | some z => rw [q] at hx; cases hx; exact ⟨z, rfl, rfl⟩
      have ea := ev_absC (env := [some (.o (scrO K ns)), none, some (.d (.int z))]) rfl
      refine tg_n (by rfl) _ ?_
      refine et_test (p := decide ((1000000000000000000 : Int) ≤ z.natAbs)) (ev_op ea (big _) fun C k => rv_ib rfl k) _ fun b hb => ?_
      subst hb
      by_cases q : (1000000000000000000 : Int) ≤ z.natAbs
      · rw [if_pos (decide_eq_true q)]
        refine ev_op ea (big _) (fun C k => rv_ii rfl k) _ fun d hd => ?_
        subst hd
        obtain ⟨large, rfl, h0⟩ := hacc
        refine ⟨rfl, large ++ [(z.natAbs : Int) - 1000000000000000000], by simp, fun x hx => ?_⟩
        rcases List.mem_append.mp hx with hx | hx
        · exact h0 x hx
        · have : x = (z.natAbs : Int) - 1000000000000000000 := by simpa using hx
          omega
      · rw [if_neg (by simpa using q)]
        exact ⟨rfl, hacc⟩
    · obtain ⟨large, rfl, h0⟩ := hacc
      exact ⟨keepE_refl, rfl, large, h0, rfl⟩
  · rintro σ1 env1 Hs1 Fr1 H1 r1 s1 sf1 fh1 k1 ⟨large, h0, rfl⟩
    obtain ⟨l, vs, hl1, hl2, ra, hf⟩ := r1.own (i := 1) (xs := large.map .int) rfl
    have ev := ints_of ra
    subst ev
    have kH : Same H H1 := s1.f.trans fh1
    have nl : H l = none := none_of s1.f hf
    intro p hp
    have npl : p ≠ l := fun z => by rw [z, hl2] at hp; cases hp
    have np : H p = none := none_of kH hp
    have fp1 : Fr1 p = none := none_of fh1 hp
    have sp1 : Hs1 p = none := none_of sf1 fp1
    obtain ⟨fpf, rf⟩ := r1
    have nin := rf.not (.inr hp)
    have rf2 : EnvF Hs1 (upd Fr1 p (.dK [])) (upd H1 p (.dK [])) σ1 [some (.o (scrO K ns)), some (.l (large.map .int)), none] fpf := rf.frz (Same.refl _) nin (fun a ha => upd_ne ha) (fun a ha h => by rw [upd_ne ha]; exact h)
    refine ⟨_, hl1, ?_⟩
    dsimp only [tPairs, tC]
    refine i2.run σ1 Hs1 (upd Fr1 p (.dK [])) (upd H1 p (.dK [])) _ _ (fun ys env => env = [some (.o (scrO K ns)), some (.l (large.map .int)), none] ∧ ys = ns.map fun z => .int (z.natAbs : Int)) ⟨_, rf2⟩ (same_upd sf1 sp1) (same_upd2 fh1) ?_ ?_
    · refine ⟨by simp, ns, rfl, by simp; omega, rfl, fun i acc => acc = (ns.take i).map fun z => .int (z.natAbs : Int), rfl, fun i acc _ hacc => ⟨fun x hx => ?_, fun e => ?_⟩⟩
      · obtain ⟨z, hz, rfl⟩ : ∃ z, ns[i]? = some z ∧ x = .int z := by
          rw [List.getElem?_map] at hx
          cases q : ns[i]? with
          | none => rw [q] at hx; cases hx
          | some z => rw [q] at hx; cases hx; exact ⟨z, rfl, rfl⟩
        refine tg_n (by rfl) _ ?_
        refine et_yes _ fun b hb => ?_
        subst hb
        rw [if_pos rfl]
        refine ev_absC (by rfl) _ fun d hd => ?_
        subst hd
        refine ⟨rfl, ?_⟩
        dsimp only at hacc ⊢
        rw [hacc, take_at hz, List.map_append]; rfl
      · rw [List.length_map] at e
        subst e
        exact ⟨rfl, by rw [hacc, List.take_length]⟩
    · rintro c ws ds env3 Hs3 Fr3 H3 Fe r3 s3 sf3 fe eh off fc ec rc ⟨rfl, rfl⟩
      have ew : ws = (ns.map fun z => (z.natAbs : Int)).map V.int := ints_of (by rw [List.map_map]; exact rc)
      subst ew
      have nrc : Fr1 c = none := by
        by_cases z : c = p
        · rw [z]; exact fp1
        · have := none_of s3.f fc
          rw [upd_ne z] at this; exact this
      have npc : p ≠ c := fun z => by
        have := s3.f p (.dK []) upd_same
        rw [z, fc] at this; cases this
      have hp3 : H3 p = some (.dK []) := eh _ _ (by rw [off p npc]; exact s3.f _ _ upd_same)
      obtain ⟨l', vs', hl3, hl4, ra3, hf3⟩ := r3.own (i := 1) (xs := large.map .int) rfl
      rw [hl1] at hl3
      cases hl3
      have ev := ints_of ra3
      subst ev
      have hc3 : H3 c = some (.lst ((ns.map fun z => (z.natAbs : Int)).map V.int)) := eh _ _ ec
      have nlc : l ≠ c := fun z => by rw [z, ec] at hf3; cases hf3
      have k3 : Same H H3 := fun a o ha => by
        refine fe.trans eh a o ?_
        refine s3.f a o ?_
        rw [upd_ne (fun z => by rw [z, np] at ha; cases ha)]
        exact s1.f a o ha
      refine ⟨hp3, [(Sum.inr ("large" : Str), .ref l), (Sum.inr ("cells" : Str), .ref c), (Sum.inr ("rest" : Str), .int 0), (Sum.inr ("turn" : Str), .int 0)], rfl, by show 4 ≤ 15; decide, ?_⟩
      refine hQ _ p l c large (ns.map fun z => (z.natAbs : Int)) { keep := same_upd k3 np, np := np, nl := nl, nc := none_of s1.f nrc, npl := npl, npc := npc, nlc := nlc, ob := ?_, hl := by rw [upd_ne (Ne.symm npl)]; exact hl4, hc := by rw [upd_ne (Ne.symm npc)]; exact hc3, l0 := h0, c0 := fun x hx => ?_ }
      · rw [upd_same]; rfl
      · obtain ⟨z, _, rfl⟩ := List.mem_map.mp hx
        omega
/-- a name gets the object -/
def tBgn (K : PySem.W.Frag) (i j : Nat) : TS := tAsg (tCall (begunSp K) [] E0 (tCons (tVar j) tNil)) (gName i)
theorem ps_bgn {X : Cx} {K : PySem.W.Frag} {st : Stmt} {i j : Nat} (h : PS X st (tAsg (tCall (begunSp K) [] E0 (tCons (tVar j) tNil)) (gName i))) : PS X st (tBgn K i j) := h
def dBgn (K : PySem.W.Frag) (i j : Nat) : DS := fun env E => ∃ ns, env[j]? = some (some (.o (scrO K ns))) ∧ ns.length ≤ 1000 ∧ free env i = true ∧ E.nx (env.set i (some (.o drw)))
instance {K : PySem.W.Frag} {i j : Nat} : AbsS (tBgn K i j) (dBgn K i j) := ⟨fun σ Hs Fr H env D E er sf fh h kn kr kb kc => by
  obtain ⟨ns, hw, hl, hfree, hE⟩ := h
  obtain ⟨fp, r⟩ := er
  obtain ⟨v, hv, _, a, rfl, hS⟩ := r.val hw
  refine ⟨_, hv, a, ns, rfl, sqL_mono (sf.trans fh) hS, hl, fun H' p l c large cells B => ?_⟩
  have fr0 : ∀ b ∈ [c], Fr b = none := fun b hb => by
    have : b = c := by simpa using hb
    subst this; exact none_of fh B.nc
  have hs0 : ∀ b ∈ [c], Hs b = none := fun b hb => none_of sf (fr0 b hb)
  have g : Gr Hs Fr H (both Hs H' [c]) (both Fr H' [c]) H' :=
    ⟨⟨both_same, both_same, fun b h1 h2 => by
      have : b ∉ [c] := fun z => h1 (fr0 b z)
      rw [both_out this]; exact h2⟩, B.keep, both_both sf fr0, both_heap (fh.trans B.keep), fun b h1 h2 => by
      have : b ∉ [c] := fun z => by
        have : b = c := by simpa using z
        subst this; exact h1 B.nc
      rw [both_out this]; exact h2⟩
  have atD : drw.At (both Hs H' [c]) H' (.ref p) [p, l] := by
    refine ⟨large, p, l, c, drwKvs l c, cells, 0, 0, { ev := rfl, ef := rfl, ne := B.npl, hp := B.ob, few := by show 4 ≤ 4; decide, gl := rfl, gc := rfl, gr := rfl, gt := rfl, hl := B.hl, hc := ?_, r0 := by decide, t0 := by decide, l0 := B.l0, c0 := B.c0 }⟩
    exact rp_ints (by rw [both_in (by simp) (hs0 c (by simp))]; exact B.hc)
  have mem2 : ∀ b ∈ [p, l], H b = none ∧ b ∉ [c] := fun b hb => by
    have : b = p ∨ b = l := by simpa using hb
    rcases this with rfl | rfl
    · exact ⟨B.np, by simpa using B.npc⟩
    · exact ⟨B.nl, by simpa using B.nlc⟩
  have r2 := r.gr g
  refine kn _ _ _ _ H' ⟨_, r2.newO i atD (fun b hb => ?_) (fun k e he b hb hm => ?_)⟩ g.st g.sf g.fh (.set _ _ hfree) hE
  · rw [both_out (mem2 b hb).2]; exact none_of fh (mem2 b hb).1
  · obtain ⟨u, h1, h2⟩ := r.at_ k e he
    exact En.known h2 b hb (mem2 b hm).1⟩
theorem st_bgn {K : PySem.W.Frag} {i j : Nat} {env : Env} {E : DEnds} {ns : List Int} (h : env[j]? = some (some (.o (scrO K ns)))) (l : ns.length ≤ 1000) (f : free env i = true) (k : E.nx (env.set i (some (.o drw)))) : dBgn K i j env E := ⟨ns, h, l, f, k⟩
end Lf
set_option Elab.async false
set_option linter.all false
set_option maxRecDepth 100000
set_option maxHeartbeats 4000000
/-! repr of data, where nothing is being told already; a law called by its caller -/
namespace Lf
open PySem PySem.Spec PyProof.Rows L2 RZ
def rRepr (K : PySem.W.Frag) : List V → Hp → VK → Prop := fun xs H Q => ∃ a d, xs = [.ref a] ∧ Dp K H (.ref a) d ∧ d.showable = true ∧ d.hasDict = false ∧ d.depth ≤ 60 ∧ d.shown.length ≤ sizeLine ∧ Q (.str d.shown) H
theorem cl_repr {X : Cx} (hg : X.A.guards = some []) (hu : X.A.units + 64 < cLine) : CallR X (.builtin "repr") (rRepr X.K) := by
  intro pins s σ H xs us Q I r h
  obtain ⟨a, d, rfl, hd, hs, hn, hdp, hz, q⟩ := h
  obtain rfl := Vals.ref1 r
  obtain ⟨as, rd⟩ := Dp.reads I d (.ref a) (.ref a) hd rfl
  exact PySem.repr_of_reads' rd hs (PyData.noDict_hsm hn) hg (by omega) (fun _ _ e => e) (fun h' u tk hk => ⟨.str _, H, I.kept (t' := tk) hk, ⟨_, rfl⟩, q⟩) hz
/-- may be told by repr; b: a bound of its size -/
structure Shw (b : Nat) (d : D) : Prop where
  s : d.toP.showable = true
  n : d.toP.hasDict = false
  l : d.toP.leavesShort 24 = true
  k : d.toP.bulk ≤ b
  d : d.toP.depth ≤ 60
theorem shw_list {b n : Nat} {xs : List D} (h : ∀ x ∈ xs, Shw b x ∧ x.toP.depth ≤ n) : PyData.showableAll (D.toPs xs) = true ∧ PyData.hasDictAll (D.toPs xs) = false ∧ PyData.leavesShortAll 24 (D.toPs xs) = true ∧ PyData.bulkAll (D.toPs xs) ≤ (b + 1) * xs.length ∧ PyData.depthAll (D.toPs xs) ≤ n := by
  induction xs with
  | nil => rw [D.toPs]; exact ⟨rfl, rfl, rfl, Nat.zero_le _, Nat.zero_le _⟩
  | cons x xs ih =>
    obtain ⟨h1, h2, h3, h4, h5⟩ := ih fun y hy => h y (by simp [hy])
    obtain ⟨g, gd⟩ := h x (by simp)
    rw [D.toPs]
    refine ⟨?_, ?_, ?_, ?_, ?_⟩
    · rw [PyData.showableAll, g.s, h1]; rfl
    · rw [PyData.hasDictAll, g.n, h2]; rfl
    · rw [PyData.leavesShortAll, g.l, h3]; rfl
    · have := g.k
      rw [PyData.bulkAll, List.length_cons, Nat.mul_add]; omega
    · rw [PyData.depthAll]
      exact Nat.max_le.mpr ⟨gd, h5⟩
theorem shw_lst {b n : Nat} {xs : List D} (hn : n < 60) (h : ∀ x ∈ xs, Shw b x ∧ x.toP.depth ≤ n) : Shw ((b + 1) * xs.length) (.lst xs) ∧ (D.lst xs).toP.depth ≤ n + 1 := by
  obtain ⟨h1, h2, h3, h4, h5⟩ := shw_list h
  refine ⟨⟨?_, ?_, ?_, ?_, ?_⟩, ?_⟩
  · rw [D.toP, PyData.showable]; exact h1
  · rw [D.toP, PyData.hasDict]; exact h2
  · rw [D.toP, PyData.leavesShort]; exact h3
  · rw [D.toP, PyData.bulk]; exact h4
  · rw [D.toP, PyData.depth]; omega
  · rw [D.toP, PyData.depth]; omega
theorem shw_tup {b n : Nat} {xs : List D} (hn : n < 60) (h : ∀ x ∈ xs, Shw b x ∧ x.toP.depth ≤ n) : Shw ((b + 1) * xs.length) (.tup xs) ∧ (D.tup xs).toP.depth ≤ n + 1 := by
  obtain ⟨h1, h2, h3, h4, h5⟩ := shw_list h
  refine ⟨⟨?_, ?_, ?_, ?_, ?_⟩, ?_⟩
  · rw [D.toP, PyData.showable]; exact h1
  · rw [D.toP, PyData.hasDict]; exact h2
  · rw [D.toP, PyData.leavesShort]; exact h3
  · rw [D.toP, PyData.bulk]; exact h4
  · rw [D.toP, PyData.depth]; omega
  · rw [D.toP, PyData.depth]; omega
theorem shw_int {i : Int} (h : i.natAbs < 10 ^ 20) : Shw 0 (.int i) ∧ (D.int i).toP.depth ≤ 0 := by
  have l : i.natAbs.log2 < 1920 := by
    by_cases z : i.natAbs = 0
    · rw [z]; decide
    · exact (Nat.log2_lt z).mpr (Nat.lt_trans h (Nat.lt_trans (show 10 ^ 20 < 2 ^ 70 by decide) (Nat.pow_lt_pow_right (by decide) (by decide))))
  have t := int_text_length_le10 (a := i) (k := 20) (by decide) h
  have t2 : (Str.ofString (toString i)).length ≤ 24 := by rw [PySem.ofString_length]; omega
  refine ⟨⟨?_, rfl, ?_, Nat.le_refl _, Nat.zero_le _⟩, Nat.le_refl _⟩
  · rw [D.toP, PyData.showable]; exact decide_eq_true l
  · rw [D.toP, PyData.leavesShort, PyData.shown]; exact decide_eq_true t2
theorem Shw.mono {b c : Nat} {d : D} (h : Shw b d) (l : b ≤ c) : Shw c d := ⟨h.s, h.n, h.l, Nat.le_trans h.k l, h.d⟩
def dRepr : DC := fun as C => ∃ xs, as = [.lst xs] ∧ Shw 100000 (.lst xs) ∧ C (.str (D.lst xs).toP.shown)
theorem Shw.size {d : D} (h : Shw 100000 d) : d.toP.shown.length ≤ sizeLine := by
  have h1 := PyData.shown_le_bulk 24 (by decide) d.toP h.l
  have h2 := h.k
  have h3 : (24 + 2) * d.toP.bulk ≤ (24 + 2) * 100000 := Nat.mul_le_mul_left _ h2
  have : sizeLine = 2 ^ 24 := rfl
  omega
instance {K : PySem.W.Frag} : AbsC (rRepr K) dRepr := ⟨fun Hs Fr H xs as Q C sf fh px h k => by
  obtain ⟨ys, rfl, hs, h⟩ := h
  obtain ⟨v, rfl, rv⟩ := px.one
  have dp := (rv.mono (sf.trans fh)).dp (K := K)
  obtain ⟨a, vs, rfl, _, _⟩ := rv.lst_inv
  exact ⟨a, _, rfl, dp, hs.s, hs.n, hs.d, hs.size, k _ _ Hs Fr H (Gr.refl sf fh) (.str _) h⟩⟩
theorem cv_repr {xs : List D} {C : D → Prop} (s : Shw 100000 (.lst xs)) (h : C (.str (D.lst xs).toP.shown)) : dRepr [.lst xs] C := ⟨xs, rfl, s, h⟩
/-- two texts that are unlike -/
def dNeS : DR2 := fun x y C => ∃ a b : Str, x = .str a ∧ y = .str b ∧ C (.bl (!decide (a = b)))
instance : AbsR rNe dNeS := ⟨fun Hs Fr H x y a b Q C sf fh px py h k => by
  obtain ⟨u, v, rfl, rfl, h⟩ := h
  obtain rfl := px.str_inv
  obtain rfl := py.str_inv
  have e : decide (V.str u = V.str v) = decide (u = v) := by
    rw [decide_eq_decide]
    exact ⟨fun z => by injection z, fun z => by rw [z]⟩
  refine ⟨rfl, ?_⟩
  rw [e]
  exact k _ _ Hs Fr H (Gr.refl sf fh) (.bl _) h⟩
theorem rv_neS {a b : Str} {C : D → Prop} {p : Bool} (e : (!decide (a = b)) = p) (h : C (.bl p)) : dNeS (.str a) (.str b) C := ⟨a, b, rfl, rfl, e ▸ h⟩
/-! ### a law, run where its caller stands -/
/-- a def's body at one place of the stack -/
theorem run_at {P : Program} {w : World} {K : PySem.W.Frag} {mg : Str → Option Value} {base : Heap} {A : Around} {outer : List PySem.Env} {t : Shared} {G : Hp} {k : Nat} {f : Addr} {x qual : Str} {params : Arguments} {body : List Stmt} {scope : Scope} {fd : FuncData} {N ps : List Str} {args : Args} {us : List Value} {vs : List V} {Q : VK} {E : XK}
    (F : FunD K x qual params body scope [] [] f fd) (S : FnScope N ps scope) (room : Room (k + 1) A) (e0 : Env0 P w K mg base A outer t G) (bind : BindsTo t fd args (ps.zip us)) (rel : Vals vs us) (len : vs.length = ps.length)
    (walk : ∀ cdv : Value, Room k (A.deeper (envOfC qual scope t.heap.objs.size f cdv)) → ∃ r, PSs (cxOf CX0 P w K mg base N qual scope f cdv A outer t G E) body r ∧ r { nx := fun _ G' => Q .non G', rt := Q } (start N vs) G) :
    codeAny (model P w) A (.call (.ref f) args) (CR CX0 outer P w G t Q E) t := by
  obtain ⟨oc, od, dV, kV, doc, pm, an, cdv, ct, osl, rfl, look, code, _, _⟩ := F.ex
  have inT : K.In t.heap := e0.mod.kin.keeps fun b o z => (e0.bs b o z).1
  have noLim : t.heap.NoLimit := e0.mod.nolimit.keeps fun b o z => (e0.bs b o z).1
  have kinds : ∀ y ∈ ps.zip us, scope.names.lookup y.1 = some .local ∨ (scope.names.lookup y.1 = some .cell ∧ ((cellsFrom (t.heap.objs.size + 1) scope.names []).lookup y.1).isSome = true) := by
    rintro ⟨nm, u⟩ hy
    exact (S.par nm (List.of_mem_zip hy).1).imp id fun z => ⟨z, PySem.W.cellsFrom_some _ _ _ (.inl z)⟩
  refine codeAny_call_function room.depth (inT _ _ look) rfl S.co S.gen rfl (PySem.W.codeRec_of inT code) (bind _ _ _ _ (wpAny_newFunctionEnv_cells S.kind kinds fun env same t1 laid => ?_))
  subst same
  obtain ⟨r, ps_, pre⟩ := walk cdv (room.deeper _)
  have J0 : Inv (cxOf CX0 P w K mg base N qual scope f cdv A outer t G E) [] (start N vs) G t1 := inv_start S room.hd e0 len rel laid
  refine ⟨noLim.keeps laid.toInCall.keep, codeAny_func (wpAny_mono (ps_.run [] t1 (start N vs) G _ J0 pre) (fun fl t' got => ?_) fun _ _ z => z)⟩
  cases fl with
  | ret u => obtain ⟨v, _, G', J, rv, q⟩ := got; exact ⟨v, G', J.os, J.bare, J.base, J.hok, rv, q⟩
  | next => obtain ⟨_, G', J, q⟩ := got; exact ⟨.non, G', J.os, J.bare, J.base, J.hok, rfl, q⟩
  | brk => exact got.elim fun _ z => z.elim fun _ z => z.2.elim
  | cont => exact got.elim fun _ z => z.elim fun _ z => z.2.elim
/-- what the caller may say of the heap: the script alone is tracked -/
structure Begin (P : Program) (w : World) (K : PySem.W.Frag) (t : Shared) (a : Addr) (ns : List Int) (G : Hp) : Prop where
  only : Only G
  at_ : SqL K G a (ns.map V.int)
  hok : HOk P w G t.heap
  self : ∀ b, G b ≠ none → b = a
  unk : G a ≠ none → K.lookup a = none
theorem begin_ {P : Program} {w : World} {K : PySem.W.Frag} {t : Shared} {a : Addr} {its : List Value} {ns : List Int} (inT : K.In t.heap) (ha : t.heap.get? a = some { cls := .type "list", data := .seq its.toArray }) (hi : IntsAre its ns) (hl : ns.length ≤ sizeLine) : ∃ G, Begin P w K t a ns G := by
  have rv := vals_ints hi
  have len := hi.length
  by_cases q : K.lookup a = none
  · refine ⟨fun b => if b = a then some (.frz { cls := .type "list", data := .seq its.toArray } (.lst (ns.map V.int))) else none, ⟨fun b => ?_, .inl (.inr ⟨_, if_pos rfl⟩), fun b u z => ?_, fun b z => ?_, fun _ => q⟩⟩
    · by_cases e : b = a
      · exact .inr ⟨_, _, if_pos e⟩
      · exact .inl (if_neg e)
    · by_cases e : b = a
      · subst e
        cases (if_pos rfl).symm.trans z
        exact ⟨ha, by rw [List.length_map]; exact hl, its, _, rv, ha⟩
      · cases (if_neg e).symm.trans z
    · exact Classical.byContradiction fun e => z (if_neg e)
  · cases e : K.lookup a with
    | none => exact absurd e q
    | some o =>
      have := inT a o e
      rw [ha] at this
      cases this
      refine ⟨fun _ => none, ⟨fun _ => .inl rfl, .inr ⟨_, its.toArray, _, e, rfl, rfl, rfl, by rw [List.size_toArray, len]; exact hl, by simpa using rv⟩, fun b u z => (nomatch z), fun b z => absurd rfl z, fun z => absurd rfl z⟩⟩
theorem law_at {P : Program} {w : World} {K : PySem.W.Frag} {mg mb : Str → Option Value} {f a : Addr} {t : Shared} {its : List Value} {ns : List Int}
    (inT : K.In t.heap) (hns : t.heap.Ns mainGlobals mg) (hb : t.heap.Ns builtinsNs mb) (hbb : ∀ x : Str, x ≠ "__name__" → mb x = bootBuiltins x) (lim : t.heap.NoLimit) (gens : t.gens = #[])
    (ha : t.heap.get? a = some { cls := .type "list", data := .seq its.toArray }) (hi : IntsAre its ns) (hl : ns.length ≤ sizeLine)
    (run : ∀ (base : Heap) (G : Hp), K.In base → base.Ns mainGlobals mg → Env0 P w K mg base callerA [] t G → SqL K G a (ns.map V.int) → codeAny (model P w) callerA (.call (.ref f) ⟨[.ref a], []⟩) (CR CX0 [] P w G t (fun v _ => v = .bl true) fun _ _ _ => False) t) :
    codeAny (model P w) callerA (.call (.ref f) ⟨[.ref a], []⟩) (fun r t' => r = .ok (.ret (.bool true)) ∧ OldK t.heap t'.heap ∧ t'.os = t.os ∧ AllBare t'.gens) t := by
  obtain ⟨G, B⟩ := begin_ (P := P) (w := w) inT ha hi hl
  have hid : ∀ {b : Addr} {o : Obj}, t.heap.get? b = some o → G b = none → (hidT t.heap G).get? b = some o := fun e n => hidT_get e n
  have other : ∀ {b : Addr} {o : Obj} {es : Array DictEntry} {n : Nat}, t.heap.get? b = some o → o.data = .dict es n → G b = none := by
    intro b o es n e d
    refine Classical.byContradiction fun z => ?_
    have q := B.self b z
    subst q
    rw [ha] at e
    cases e
    cases show Data.seq its.toArray _ = Data.dict es n from d
  have ns_ : ∀ {b : Addr} {m : Str → Option Value}, t.heap.Ns b m → (hidT t.heap G).Ns b m := fun {b m} ⟨o, es, n, e, d, r⟩ => ⟨o, es, n, hid e (other e d), d, r⟩
  have kb : K.In (hidT t.heap G) := fun b o e => hid (inT b o e) (Classical.byContradiction fun z => by
    have q := B.self b z
    subst q
    rw [B.unk z] at e; cases e)
  have env : Env0 P w K mg (hidT t.heap G) callerA [] t G :=
    ⟨rfl, ⟨kb, ns_ hns, ⟨mb, ns_ hb, hbb⟩, lim.elim fun mc z => ⟨mc, ns_ z.1, z.2⟩⟩, fun b o e => of_hidT e, Nat.le_of_eq (hidT_size _ _), trivial, fun b hb => absurd (show b ∈ ([] : List Addr) from hb) (by simp), B.hok, .of_eq gens⟩
  refine codeAny_mono (run _ G kb (ns_ hns) env B.at_) fun r t' got => ?_
  match r, got with
  | .ok (.ret u), ⟨v, G', os, bare, un, hok', rv, q⟩ =>
    have q : v = .bl true := q
    subst q
    obtain rfl : u = Value.bool true := rv
    refine ⟨rfl, OldK.of_keep fun b o e => ?_, os, bare⟩
    by_cases z : G b = none
    · exact un.keep b o e z (fun y => absurd (show b ∈ ([] : List Addr) from y) (by simp)) (by simp)
    · rcases B.only b with y | ⟨ob, xs, y⟩
      · exact absurd y z
      · obtain ⟨e1, _⟩ := B.hok b _ y
        obtain ⟨e2, _⟩ := hok' b _ (un.frzs b ob _ y)
        rw [e] at e1; cases e1
        exact e2
/-- the end of a law, by what its def does where its caller stands -/
theorem walk_at {l : PySem.W.OpenLaw} {n : Nat} {q : Program} {loose : List Str} {XP : (Str → Option Value) → Heap → Prop} {YP : World → Heap → Prop} {d : DefRec} (hn : l.most = some n) (hn2 : n ≤ sizeLine) (hdf : d.params.defaults = [])
    (F : ∀ (w : World) (mg : Str → Option Value) (f : Addr) (h : Heap), YP w h → h.Ns mainGlobals mg → mg d.name = some (.ref f) → ∃ K : PySem.W.Frag, K.In h ∧ ∀ (base : Heap) (t : Shared) (G : Hp) (a : Addr) (ns : List Int), K.In base → base.Ns mainGlobals mg → ns.length ≤ n →
      Env0 l.prog w K mg base callerA [] t G → SqL K G a (ns.map V.int) → codeAny (model l.prog w) callerA (.call (.ref f) ⟨[.ref a], []⟩) (CR CX0 [] l.prog w G t (fun v _ => v = .bl true) fun _ _ _ => False) t) :
    PySem.W.WalkO q loose XP YP l.row.toRowW d [] (fun f vs => PySem.call f vs) :=
  Att.attach_call hn hdf fun w _ t mg mb f _ _ _ _ a _ ns g Y _ _ _ hm hobj hints len gens => by
    obtain ⟨K, inT, run⟩ := F w mg f _ Y g.T.g hm
    exact law_at inT g.T.g g.T.b g.T.builtins g.T.nolimit gens hobj hints (Nat.le_trans len hn2) fun base G kb nb e0 hs => run base t G a ns kb nb len e0 hs
end Lf
/-! x in a list, x not in a list; strings. -/
set_option linter.unusedVariables false
set_option maxRecDepth 100000
namespace Lf
open PySem PySem.Spec PyProof.Rows L2
def dIn : DR2 := fun x y C => ∃ xs, y = .lst xs ∧ shp x ∧ shp y ∧ C (.bl (xs.any fun z => dEq z x))
def dNin : DR2 := fun x y C => ∃ xs, y = .lst xs ∧ shp x ∧ shp y ∧ C (.bl (!xs.any fun z => dEq z x))
theorem any_toPs (f : PyData → Bool) (xs : List D) : (D.toPs xs).any f = xs.any fun z => f z.toP := by
  rw [D.toPs_eq, List.any_map]; rfl
instance {K : PySem.W.Frag} : AbsR (rInD K) dIn := ⟨fun Hs Fr H x y a b Q C sf fh px py h k => by
  obtain ⟨xs, rfl, h1, h2, h⟩ := h
  have p := (py.mono (sf.trans fh)).dp (K := K)
  rw [D.toP] at p
  unfold Lf.shp at h2
  rw [D.toP] at h2
  refine ⟨a.toP, D.toPs xs, (px.mono (sf.trans fh)).dp, p, h1, h2, k _ _ Hs Fr H (Gr.refl sf fh) (.bl _) ?_⟩
  rw [any_toPs]; exact h⟩
instance {K : PySem.W.Frag} : AbsR (rNotInD K) dNin := ⟨fun Hs Fr H x y a b Q C sf fh px py h k => by
  obtain ⟨xs, rfl, h1, h2, h⟩ := h
  have p := (py.mono (sf.trans fh)).dp (K := K)
  rw [D.toP] at p
  unfold Lf.shp at h2
  rw [D.toP] at h2
  refine ⟨a.toP, D.toPs xs, (px.mono (sf.trans fh)).dp, p, h1, h2, k _ _ Hs Fr H (Gr.refl sf fh) (.bl _) ?_⟩
  rw [any_toPs]; exact h⟩
theorem flat_str {x : Str} (h : PyData.strOk x = true) : flat 0 (.str x) := ⟨by simp [D.toP, PyData.canLay0, h], by simp [D.toP, PyData.depth]⟩
theorem dEq_str (x y : Str) : dEq (.str x) (.str y) = decide (x = y) := by
  simp only [dEq, D.toP, PyData.eqv]
  by_cases h : x = y <;> simp [h]
theorem room65 {k : Nat} {A : Around} (r : Room k A) : A.units + 65 < cLine := by have := r.un; omega
end Lf
set_option Elab.async false
set_option linter.all false
set_option maxRecDepth 100000
set_option maxHeartbeats 4000000
/-! f(Basis(x), ..): a call on a new basis -/
namespace Lf
open PySem PySem.Spec PyProof.Rows L2 RZ
theorem mkB_run {C : Addr} {j : Nat} {σ : L2.St} {Hs Fr H : Hp} {env : Env} {goal : List Int} {Q : VK} (er : EnvR Hs Fr H σ env) (sf : Same Hs Fr) (fh : Same Fr H) (hg : env[j]? = some (some (.d (.tup (goal.map .int))))) (n60 : goal.length ≤ 60)
    (kn : ∀ x fp5 fp Hs' Fr' H', EnvF Hs' Fr' H' σ env fp → Stp Hs Fr Hs' Fr' → Same Hs' Fr' → Same Fr' H' → (bas C (BSt.new goal)).At Hs' H' x fp5 → (∀ a ∈ fp5, Fr' a = none) → (∀ k e, env[k]? = some (some e) → ∀ a ∈ fp k, a ∉ fp5) → Q x H') :
    tMake C (initSp C) [] E0 (tCons (tVar j) tNil) σ H Q := by
  obtain ⟨v, hv, rv⟩ := er.dat hg
  obtain ⟨a, vs, rfl, ha, ra⟩ := rv.tup_inv
  have ev := ints_of ra
  subst ev
  have haH : H a = some (.tup (goal.map V.int)) := (sf.trans fh) _ _ ha
  refine ⟨_, hv, fun x dx hx hdx ne => ?_⟩
  have nax : a ≠ x := fun z => by rw [z, hx] at haH; cases haH
  have nad : a ≠ dx := fun z => by rw [z, hdx] at haH; cases haH
  refine ⟨x, dx, a, goal, rfl, upd_same, by rw [upd_ne nax, upd_ne nad]; exact haH, n60, fun H' l1 l2 l3 rows M => ⟨rfl, ?_⟩⟩
  have base : ∀ b o, H b = some o → upd (upd H dx (.own x)) x (.ins C dx []) b = some o := fun b o h => by
    rw [upd_ne (fun z => by rw [z, hx] at h; cases h), upd_ne (fun z => by rw [z, hdx] at h; cases h)]; exact h
  have fresh : ∀ b, upd (upd H dx (.own x)) x (.ins C dx []) b = none → H b = none ∧ b ≠ x ∧ b ≠ dx := fun b h => by
    have n1 : b ≠ x := fun z => by rw [z, upd_same] at h; cases h
    rw [upd_ne n1] at h
    have n2 : b ≠ dx := fun z => by rw [z, upd_same] at h; cases h
    rw [upd_ne n2] at h
    exact ⟨h, n1, n2⟩
  have hh : Same H H' := fun b o h => M.keep b o (fun z => by rw [z, hx] at h; cases h) (base b o h)
  have hd' : H' dx = some (.own x) := M.keep _ _ ne (by rw [upd_ne ne, upd_same])
  obtain ⟨z1, z1x, z1d⟩ := fresh _ M.f1
  obtain ⟨z2, z2x, z2d⟩ := fresh _ M.f2
  obtain ⟨z3, z3x, z3d⟩ := fresh _ M.f3
  have rfree : ∀ b ∈ rows, H b = none ∧ b ≠ x ∧ b ≠ dx ∧ b ≠ l1 ∧ b ≠ l2 ∧ b ≠ l3 := fun b hb => by
    obtain ⟨k, hk⟩ := List.mem_iff_getElem?.mp hb
    obtain ⟨q1, q2, q3, q4, _⟩ := M.rw_ k b hk
    obtain ⟨q5, q6, q7⟩ := fresh _ q1
    exact ⟨q5, q6, q7, q2, q3, q4⟩
  have fr0 : ∀ b ∈ rows, Fr b = none := fun b hb => none_of fh (rfree b hb).1
  have hs0 : ∀ b ∈ rows, Hs b = none := fun b hb => none_of sf (fr0 b hb)
  have g : Gr Hs Fr H (both Hs H' rows) (both Fr H' rows) H' :=
    ⟨⟨both_same, both_same, fun b h1 h2 => by
      have : b ∉ rows := fun z => h1 (fr0 b z)
      rw [both_out this]; exact h2⟩, hh, both_both sf fr0, both_heap (fh.trans hh), fun b h1 h2 => by
      have : b ∉ rows := fun z => h1 (rfree b z).1
      rw [both_out this]; exact h2⟩
  have out : ∀ b, H b = none → b ∉ rows → both Fr H' rows b = none := fun b h1 h2 => by rw [both_out h2]; exact none_of fh h1
  have atB : (bas C (BSt.new goal)).At (both Hs H' rows) H' (.ref x) [x, dx, l1, l2, l3] := by
    refine ⟨x, dx, l1, l2, l3, _, rows.map V.ref, { ev := rfl, ef := rfl, n12 := M.n12, n13 := M.n13, n23 := M.n23, hp := M.ob, hd := hd', few := by show 4 < 1000; decide, g0 := rfl, g1 := rfl, g2 := rfl, g3 := rfl, gn := new_gn, h1 := M.h1, h2 := M.h2, h3 := M.h3, hr := ?_ }⟩
    have li : (BSt.new goal).inverse.length = goal.length := by
      show ((List.range goal.length).map _).length = _
      rw [List.length_map, List.length_range]
    refine ⟨by rw [List.length_map, List.length_map, li, M.len], fun k v d h1 h2 => ?_⟩
    rw [List.getElem?_map] at h1 h2
    cases q : rows[k]? with
    | none => rw [q] at h1; cases h1
    | some b =>
      rw [q] at h1; cases h1
      cases q2 : (BSt.new goal).inverse[k]? with
      | none => rw [q2] at h2; cases h2
      | some rr =>
        rw [q2] at h2; cases h2
        have hk : k < goal.length := by have := (List.getElem?_eq_some_iff.mp q2).1; omega
        have hb := List.mem_of_getElem? q
        obtain ⟨_, _, _, _, h5⟩ := M.rw_ k b q
        rw [irow_eq hk q2] at h5
        exact rp_ints (by rw [both_in hb (hs0 b hb)]; exact h5)
  have mem5 : ∀ b ∈ [x, dx, l1, l2, l3], H b = none ∧ b ∉ rows := fun b hb => by
    have : b = x ∨ b = dx ∨ b = l1 ∨ b = l2 ∨ b = l3 := by simpa using hb
    rcases this with rfl | rfl | rfl | rfl | rfl
    · exact ⟨hx, fun z => (rfree _ z).2.1 rfl⟩
    · exact ⟨hdx, fun z => (rfree _ z).2.2.1 rfl⟩
    · exact ⟨z1, fun z => (rfree _ z).2.2.2.1 rfl⟩
    · exact ⟨z2, fun z => (rfree _ z).2.2.2.2.1 rfl⟩
    · exact ⟨z3, fun z => (rfree _ z).2.2.2.2.2 rfl⟩
  obtain ⟨fp, r⟩ := er
  refine kn (.ref x) _ fp _ _ H' (r.gr g) g.st g.sf g.fh atB (fun b hb => out b (mem5 b hb).1 (mem5 b hb).2) (fun k e he b hb hm => ?_)
  obtain ⟨u, h1, h2⟩ := r.at_ k e he
  exact En.known h2 b hb (mem5 b hm).1
/-- f(Basis(x), ..), x the slot j -/
def tMkCall (C : Addr) (sp : Sp) (j : Nat) (E : XK) (t : TA) : TE := tCall sp [] E (tCons (tMake C (initSp C) [] E0 (tCons (tVar j) tNil)) t)
theorem pe_mkCall {X : Cx} {e : Expr} {C : Addr} {sp : Sp} {j : Nat} {E : XK} {t : TA} (h : PE X e (tCall sp [] E (tCons (tMake C (initSp C) [] E0 (tCons (tVar j) tNil)) t))) : PE X e (tMkCall C sp j E t) := h
def dMkCall (C : Addr) (n : Nat) (ow : OW) (j : Nat) (da : DA) : DE := fun env K => ∃ goal : List Int, env[j]? = some (some (.d (.tup (goal.map .int)))) ∧ goal.length ≤ 60 ∧ da env fun ds env1 => ds.length + 1 = n ∧ ow (bas C (BSt.new goal)) ds fun d _ => K d env1
instance {C : Addr} {n : Nat} {ow : OW} {j : Nat} {E : XK} {t : TA} {da : DA} [ha : AbsA t da] : AbsE (tMkCall C (OSp n ow) j E t) (dMkCall C n ow j da) := ⟨fun σ Hs Fr H env Q K er sf fh h k => by
  obtain ⟨goal, hg, n60, h⟩ := h
  suffices key : tMake C (initSp C) [] E0 (tCons (tVar j) tNil) σ H (fun x H1 => t σ H1 fun xs H2 => OSp n ow ((x :: xs) ++ []) H2 Q E) from key
  refine mkB_run er sf fh hg n60 fun x fp5 fp Hs0 Fr0 H0 r0 s0 sf0 fh0 at5 fr5 dis5 => ?_
  have P5 : ∀ a, a ∈ fp5 → Fr0 a = none ∧ H0 a ≠ none := fun a ha => ⟨fr5 a ha, Ow.known _ at5 a ha⟩
  have r0' : EnvF Hs0 (frC Fr0 H0 (· ∈ fp5)) H0 σ env fp := ⟨r0.len, r0.at_, fun i e he a ha => by
    have h1 := r0.fr i e he a ha
    have h2 : ¬ a ∈ fp5 := dis5 i e he a ha
    unfold frC; rw [h1]; simp only [h2, if_false], r0.dis⟩
  refine ha.run σ Hs0 (frC Fr0 H0 (· ∈ fp5)) H0 env _ _ ⟨fp, r0'⟩ (sf0.trans frC_keep) (frC_heap fh0) h fun vs ds env1 Hs1 Fr1 H1 r1 s1 sf1 fh1 ra hc => ?_
  have A1 := after sf0 P5 s1 sf1 fh1
  obtain ⟨hn, ho⟩ := hc
  obtain ⟨fp1, rf1⟩ := r1
  have rf2 : EnvF Hs1 (frD Fr1 (· ∈ fp5)) H1 σ env1 fp1 := ⟨rf1.len, rf1.at_, fun i e he a ha => by
    have h1 := rf1.fr i e he a ha
    unfold frD; split
    · rfl
    · exact h1, rf1.dis⟩
  have hP6 := rf2.ownedP (fun _ => False)
  have at5' : (bas C (BSt.new goal)).At Hs1 H1 x fp5 := Ow.mono _ at5 A1.st.s fun a ha => A1.at_ a ha
  have fr5' : ∀ a ∈ fp5, frC (frD Fr1 (· ∈ fp5)) H1 (Owned env1 fp1 fun _ => False) a = none := fun a ha => by
    have h1 : frD Fr1 (· ∈ fp5) a = none := by unfold frD; simp only [ha, if_true]
    have h2 : ¬ Owned env1 fp1 (fun _ => False) a := fun ⟨i, e, _, he, hm⟩ => A1.out a ha (rf1.fr i e he a hm)
    unfold frC; rw [h1]; simp only [h2, if_false]
  refine ⟨by rw [List.append_nil, List.length_cons, ra.1]; exact hn, Hs1, frC (frD Fr1 (· ∈ fp5)) H1 (Owned env1 fp1 fun _ => False), _, x, vs, ds, fp5, _, by simp, A1.sf.trans frC_keep, frC_heap A1.fh, at5', fr5', ra, ho, fun v d w' fp' Hs' Fr' H' hat' hfr' s' sf' fh' rv c => ?_⟩
  have A2 := after A1.sf hP6 s' sf' fh'
  refine k v d env1 Hs' _ H' ⟨fp1, rf2.len, fun i e he => ?_, fun i e he a ha => ?_, rf2.dis⟩ ((s0.trans A1.st).trans A2.st) A2.sf A2.fh rv c
  · obtain ⟨u, h1, h2⟩ := rf2.at_ i e he
    exact ⟨u, h1, En.mono h2 s'.s fun a ha => A2.at_ a ⟨i, e, id, he, ha⟩⟩
  · have z : Owned env1 fp1 (fun _ => False) a := ⟨i, e, id, he, ha⟩
    show frD Fr' _ a = none
    unfold frD
    simp only [z, if_true]⟩
theorem ev_mkCall {C : Addr} {n j : Nat} {ow : OW} {da : DA} {env : Env} {goal : List Int} {ds : List D} {d : D} (h : env[j]? = some (some (.d (.tup (goal.map .int))))) (l : goal.length ≤ 60) (ha : EvA da env ds) (hn : ds.length + 1 = n) (k : ∀ K : D → Ow → Prop, (∀ w, K d w) → ow (bas C (BSt.new goal)) ds K) : Ev (dMkCall C n ow j da) env d := fun K q =>
  ⟨goal, h, l, ha _ fun _ e => by
    subst e
    exact ⟨hn, k _ fun w => q _ rfl⟩⟩
end Lf
set_option Elab.async false
set_option linter.all false
set_option maxRecDepth 100000
set_option maxHeartbeats 4000000
set_option synthInstance.maxHeartbeats 4000000
set_option synthInstance.maxSize 100000
namespace K04
open PySem PySem.Spec PyProof.Rows L2 RZ Lf
def top (i : Nat) : Stmt := PySem.Challenge.pw_pacerose_k04_whole_least_deals_and_their.main.body.getD i (.Pass ⟨0, 0, 0, 0⟩)
def names : List Str := [("is_number" : Str), ("is_list" : Str), ("is_row" : Str), ("is_row_of" : Str), ("are_rows_of" : Str), ("are_rows" : Str), ("is_row_beside" : Str), ("divisor" : Str), ("reduced" : Str), ("scaled_down" : Str), ("sparse" : Str), ("price_of" : Str), ("prices_of" : Str), ("goes_first" : Str), ("leaving" : Str), ("gather" : Str), ("cost_prices" : Str), ("lessen" : Str), ("endless_counts" : Str), ("told_deal" : Str), ("told_prices" : Str), ("deal_or_dam_from" : Str), ("solved_from" : Str), ("deal_or_dam" : Str), ("solved" : Str), ("check_columns_and_goal" : Str), ("check_deal" : Str), ("deal_and_dam" : Str), ("dealt" : Str), ("check_least" : Str), ("least_deal" : Str), ("_law_begun" : Str), ("_law_blend" : Str), ("_law_take" : Str), ("_law_pick" : Str), ("_law_is_number" : Str), ("_law_is_row" : Str), ("_law_dot" : Str), ("_law_divisor" : Str), ("_law_times" : Str), ("_law_sum" : Str), ("_law_deal_ok" : Str), ("_law_dam_ok" : Str), ("_law_some_columns" : Str), ("_law_prices_ok" : Str), ("_law_endless_ok" : Str), ("_law_least_ok" : Str), ("_law_costs" : Str), ("law" : Str), ("Basis" : Str)]
def frees : List Str := [("abs" : Str), ("all" : Str), ("bool" : Str), ("enumerate" : Str), ("int" : Str), ("isinstance" : Str), ("len" : Str), ("list" : Str), ("max" : Str), ("min" : Str), ("range" : Str), ("str" : Str), ("sum" : Str), ("tuple" : Str), ("zip" : Str)]
def meth (i j : Nat) : Stmt := (C8.clsBody (top i)).getD j (.Pass ⟨0, 0, 0, 0⟩)
def mdef (c m q : Str) (st : Stmt) : He.DefD := ⟨(c, some m), m, q, defArgs st, defBody st, defScope st, [], []⟩
def methods : List He.DefD := [mdef "Basis" "__init__" "Basis.__init__" (meth 20 0), mdef "Basis" "lifted" "Basis.lifted" (meth 20 1), mdef "Basis" "priced" "Basis.priced" (meth 20 2), mdef "Basis" "stand_in_prices" "Basis.stand_in_prices" (meth 20 3), mdef "Basis" "lack" "Basis.lack" (meth 20 4), mdef "Basis" "pivot" "Basis.pivot" (meth 20 5)]
def fns : List He.DefD := [ddef "is_number" (top 8), ddef "is_list" (top 9), ddef "is_row" (top 10), ddef "is_row_of" (top 11), ddef "are_rows_of" (top 12), ddef "are_rows" (top 13), ddef "is_row_beside" (top 14), ddef "divisor" (top 16), ddef "reduced" (top 17), ddef "scaled_down" (top 18), ddef "sparse" (top 21), ddef "price_of" (top 22), ddef "prices_of" (top 23), ddef "goes_first" (top 24), ddef "leaving" (top 25), ddef "gather" (top 26), ddef "cost_prices" (top 27), ddef "lessen" (top 28), ddef "endless_counts" (top 29), ddef "told_deal" (top 30), ddef "told_prices" (top 31), ddef "deal_or_dam_from" (top 32), ddef "solved_from" (top 33), ddef "deal_or_dam" (top 34), ddef "solved" (top 35), ddef "check_columns_and_goal" (top 37), ddef "check_deal" (top 38), ddef "deal_and_dam" (top 39), ddef "dealt" (top 40), ddef "check_least" (top 42), ddef "least_deal" (top 43), ddef "_law_begun" (top 45), ddef "_law_blend" (top 46), ddef "_law_take" (top 47), ddef "_law_pick" (top 48), ddef "_law_is_number" (top 49), ddef "_law_is_row" (top 50), ddef "_law_dot" (top 51), ddef "_law_divisor" (top 52), ddef "_law_times" (top 53), ddef "_law_sum" (top 54), ddef "_law_deal_ok" (top 55), ddef "_law_dam_ok" (top 56), ddef "_law_some_columns" (top 57), ddef "_law_prices_ok" (top 58), ddef "_law_endless_ok" (top 59), ddef "_law_least_ok" (top 60), ddef "_law_costs" (top 61), ddef "law" (top 62)] ++ methods
def fields : List Str := [("inverse" : Str), ("levels" : Str), ("members" : Str), ("scale" : Str)]
def mnames : List Str := [("lifted" : Str), ("priced" : Str), ("stand_in_prices" : Str), ("lack" : Str), ("pivot" : Str)]
def classFacts : List He.Fa := .cls "Basis" :: .mkr "Basis" :: (fields.map (He.Fa.noat "Basis") ++ mnames.map (He.Fa.meth "Basis"))
def facts : List He.Fa := namesOf names frees classFacts
abbrev Top (P : Program) (w : World) (K : PySem.W.Frag) (mg : Str → Option Value) : Prop := TopX P w facts fns K mg
theorem mem_cf {f : He.Fa} (h : f ∈ classFacts) : f ∈ facts := List.mem_append_right _ (List.mem_append_right _ h)
theorem clsB {P : Program} {w : World} {K : PySem.W.Frag} {mg : Str → Option Value} (T : Top P w K mg) : Cls K (He.ga K "Basis") := He.cls_ok (T.says.facts (mem_cf List.mem_cons_self))
theorem mkrB {P : Program} {w : World} {K : PySem.W.Frag} {mg : Str → Option Value} (T : Top P w K mg) : Mk K (He.ga K "Basis") (He.ma K (He.ga K "Basis") "__init__") := He.mkr_ok (T.says.facts (mem_cf (List.mem_cons_of_mem _ List.mem_cons_self)))
theorem noatB {P : Program} {w : World} {K : PySem.W.Frag} {mg : Str → Option Value} (T : Top P w K mg) (f : Str) (h : fields.contains f = true) : NoAttr K (He.ga K "Basis") f :=
  He.noat_ok (T.says.facts (mem_cf (List.mem_cons_of_mem _ (List.mem_cons_of_mem _ (List.mem_append_left _ (List.mem_map_of_mem (List.contains_iff_mem.mp h)))))))
theorem methB {P : Program} {w : World} {K : PySem.W.Frag} {mg : Str → Option Value} (T : Top P w K mg) (m : Str) (h : mnames.contains m = true) : Meth K (He.ga K "Basis") m (He.ma K (He.ga K "Basis") m) :=
  He.meth_ok (T.says.facts (mem_cf (List.mem_cons_of_mem _ (List.mem_cons_of_mem _ (List.mem_append_right _ (List.mem_map_of_mem (List.contains_iff_mem.mp h)))))))
section
variable {P : Program} {w : World} {K : PySem.W.Frag} {mg : Str → Option Value} {base : Heap}

end
end K04
set_option Elab.async false
set_option linter.all false
set_option maxRecDepth 100000
set_option maxHeartbeats 0
namespace K04
open PySem PySem.Spec PyProof.Rows L2 RZ Lf
abbrev hk : PySem.W.Hook := He.hookX 4 facts fns [] [] gcdB
abbrev R : PySem.W.OpenRow := PySem.W.OpenLaw.row PySem.Challenge.rw_pacerose_k04_whole_least_deals_and_their
def ob (s : PySem.W.SharedT) : He.AlX := He.obsX 4 facts fns [] [] gcdB (HandSHeadRun.getT s)
theorem ob_eq (s : PySem.W.SharedT) : ob s = hk.obs s.abs := He.obsX_eq (HandSHeadRun.getT_eq s)
def loose0 : List Str := [("__name__" : Str), ("RoseError" : Str), ("BadColumns" : Str), ("BadCosts" : Str), ("BadGoal" : Str), ("TooMany" : Str), ("is_number" : Str), ("is_list" : Str), ("is_row" : Str), ("is_row_of" : Str), ("are_rows_of" : Str), ("are_rows" : Str), ("is_row_beside" : Str), ("divisor" : Str), ("reduced" : Str), ("scaled_down" : Str), ("Basis" : Str), ("sparse" : Str), ("price_of" : Str), ("prices_of" : Str), ("goes_first" : Str), ("leaving" : Str), ("gather" : Str), ("cost_prices" : Str), ("lessen" : Str), ("endless_counts" : Str), ("told_deal" : Str), ("told_prices" : Str), ("deal_or_dam_from" : Str), ("solved_from" : Str)]
def loose1 : List Str := [("deal_or_dam" : Str), ("solved" : Str), ("check_columns_and_goal" : Str), ("check_deal" : Str), ("deal_and_dam" : Str), ("dealt" : Str), ("check_least" : Str), ("least_deal" : Str), ("_law_begun" : Str), ("_law_blend" : Str), ("_law_take" : Str), ("_law_pick" : Str), ("_law_is_number" : Str), ("_law_is_row" : Str), ("_law_dot" : Str), ("_law_divisor" : Str), ("_law_times" : Str), ("_law_sum" : Str), ("_law_deal_ok" : Str), ("_law_dam_ok" : Str), ("_law_some_columns" : Str), ("_law_prices_ok" : Str), ("_law_endless_ok" : Str), ("_law_least_ok" : Str), ("_law_costs" : Str)]
def loose : List Str := loose0 ++ loose1
section
open PySem.W PySem.Calls HandSHeadRun
noncomputable abbrev whole (w : World) := wholeF (fun p => stepQ (denQ tabQ) p w) fenceQ 20000 R.prog
theorem runA (w : World) : (whole w).map (fun x => (looksF R.prog x.1.heap x.2.abs, seenQ (view R.prog [0, 62]) loose (importedModules R.prog.main.body) (fun s => xlAt (view R.prog [0, 62]) [] s && recOk R.toRowW.records s) x.2.abs)) = some (true, openGood (view R.prog [0, 62]) loose) := by
  kernel_rfl
theorem runB (w : World) : (whole w).map (fun x => ob x.2) = some (hk.val w) := by
  kernel_rfl
theorem run (w : World) : RunEqI R (view R.prog [0, 62]) hk ob 20000 loose w := by
  have ha := runA w
  have hb := runB w
  unfold RunEqI
  show (whole w).map _ = _
  cases e : whole w with
  | none => rw [e] at ha; cases ha
  | some x =>
    rw [e] at ha hb
    have ha := Option.some.inj ha
    have hb : ob x.2 = hk.val w := Option.some.inj hb
    have h1 := congrArg Prod.fst ha
    have h2 := congrArg Prod.snd ha
    dsimp only at h1 h2
    exact congrArg some (Prod.ext h1 (Prod.ext h2 hb))
end
end K04
/-! Sums, vectors, and an alternating form over whole numbers. -/
set_option linter.unusedVariables false
namespace Sx
abbrev Vec := Nat → Int
/-- f 0 + … + f (n - 1) -/
def sm : Nat → (Nat → Int) → Int
  | 0, _ => 0
  | n + 1, f => sm n f + f n
theorem sm_congr {n : Nat} {f g : Nat → Int} (h : ∀ k, k < n → f k = g k) : sm n f = sm n g := by
  induction n with
  | zero => rfl
  | succ n ih => simp only [sm]; rw [ih fun k hk => h k (by omega), h n (by omega)]
theorem sm_zero {n : Nat} {f : Nat → Int} (h : ∀ k, k < n → f k = 0) : sm n f = 0 := by
  induction n with
  | zero => rfl
  | succ n ih => simp only [sm]; rw [ih fun k hk => h k (by omega), h n (by omega)]; rfl
theorem sm_add (n : Nat) (f g : Nat → Int) : sm n (fun k => f k + g k) = sm n f + sm n g := by
  induction n with
  | zero => rfl
  | succ n ih => simp only [sm]; rw [ih]; omega
theorem sm_sub (n : Nat) (f g : Nat → Int) : sm n (fun k => f k - g k) = sm n f - sm n g := by
  induction n with
  | zero => rfl
  | succ n ih => simp only [sm]; rw [ih]; omega
theorem sm_mul (n : Nat) (c : Int) (f : Nat → Int) : sm n (fun k => c * f k) = c * sm n f := by
  induction n with
  | zero => simp [sm]
  | succ n ih => simp only [sm]; rw [ih, Int.mul_add]
theorem sm_mulr (n : Nat) (c : Int) (f : Nat → Int) : sm n (fun k => f k * c) = sm n f * c := by
  induction n with
  | zero => simp [sm]
  | succ n ih => simp only [sm]; rw [ih, Int.add_mul]
theorem sm_neg (n : Nat) (f : Nat → Int) : sm n (fun k => - f k) = - sm n f := by
  induction n with
  | zero => rfl
  | succ n ih => simp only [sm]; rw [ih]; omega
theorem sm_one {n k : Nat} {f : Nat → Int} (hk : k < n) (h : ∀ j, j < n → j ≠ k → f j = 0) : sm n f = f k := by
  induction n with
  | zero => omega
  | succ n ih =>
    simp only [sm]
    by_cases e : k = n
    · subst e
      rw [sm_zero fun j hj => h j (by omega) (by omega)]; omega
    · rw [ih (by omega) fun j hj => h j (by omega), h n (by omega) (by omega)]; omega
theorem sm_two {n k r : Nat} {f : Nat → Int} (hk : k < n) (hr : r < n) (ne : k ≠ r) (h : ∀ j, j < n → j ≠ k → j ≠ r → f j = 0) : sm n f = f k + f r := by
  have e : sm n f = sm n (fun j => (if j = k then f k else 0) + (if j = r then f r else 0)) :=
    sm_congr fun j hj => by
      by_cases e1 : j = k
      · subst e1; simp [ne]
      · by_cases e2 : j = r
        · subst e2; simp [e1]
        · simp [e1, e2, h j hj e1 e2]
  rw [e, sm_add, sm_one (k := k) hk (by intro j _ hj; simp [hj]), sm_one (k := r) hr (by intro j _ hj; simp [hj])]
  simp
theorem sm_comm (n m : Nat) (f : Nat → Nat → Int) : sm n (fun k => sm m (f k)) = sm m (fun j => sm n fun k => f k j) := by
  induction n with
  | zero => simp only [sm]; exact (sm_zero fun _ _ => rfl).symm
  | succ n ih =>
    simp only [sm]
    rw [ih, ← sm_add]
theorem sm_nonneg {n : Nat} {f : Nat → Int} (h : ∀ k, k < n → 0 ≤ f k) : 0 ≤ sm n f := by
  induction n with
  | zero => exact Int.le_refl _
  | succ n ih => simp only [sm]; have := ih fun k hk => h k (by omega); have := h n (by omega); omega
theorem sm_le {n : Nat} {f g : Nat → Int} (h : ∀ k, k < n → f k ≤ g k) : sm n f ≤ sm n g := by
  induction n with
  | zero => exact Int.le_refl _
  | succ n ih => simp only [sm]; have := ih fun k hk => h k (by omega); have := h n (by omega); omega
theorem sm_pos {n : Nat} {f : Nat → Int} (h : 0 < sm n f) : ∃ k, k < n ∧ 0 < f k := by
  induction n with
  | zero => simp [sm] at h
  | succ n ih =>
    simp only [sm] at h
    by_cases e : 0 < f n
    · exact ⟨n, by omega, e⟩
    · obtain ⟨k, hk, hf⟩ := ih (by omega)
      exact ⟨k, by omega, hf⟩
theorem sm_eq_zero {n : Nat} {f : Nat → Int} (h : ∀ k, k < n → 0 ≤ f k) (e : sm n f ≤ 0) : ∀ k, k < n → f k = 0 := by
  induction n with
  | zero => intro k hk; omega
  | succ n ih =>
    simp only [sm] at e
    have h1 := sm_nonneg (n := n) (f := f) fun k hk => h k (by omega)
    have h2 := h n (by omega)
    intro k hk
    by_cases ek : k = n
    · subst ek; omega
    · exact ih (fun k hk => h k (by omega)) (by omega) k (by omega)
/-- the product of two rows -/
def dot (n : Nat) (u v : Vec) : Int := sm n fun i => u i * v i
theorem dot_congr {n : Nat} {u v u' v' : Vec} (h : ∀ i, i < n → u i = u' i) (g : ∀ i, i < n → v i = v' i) : dot n u v = dot n u' v' :=
  sm_congr fun i hi => by rw [h i hi, g i hi]
/-- column k is x, the others are those of B -/
def up (B : Nat → Vec) (k : Nat) (x : Vec) : Nat → Vec := fun j => if j = k then x else B j
theorem up_same (B : Nat → Vec) (k : Nat) (x : Vec) : up B k x k = x := by simp [up]
theorem up_ne {B : Nat → Vec} {k j : Nat} {x : Vec} (h : j ≠ k) : up B k x j = B j := by simp [up, h]
/-- the columns without the one with index j, without their first numbers -/
def cut (B : Nat → Vec) (j : Nat) : Nat → Vec := fun k i => (if k < j then B k else B (k + 1)) (i + 1)
theorem cut_app (B : Nat → Vec) (j k i : Nat) : cut B j k i = if k < j then B k (i + 1) else B (k + 1) (i + 1) := by
  unfold cut; split <;> rfl
theorem up_app (B : Nat → Vec) (k : Nat) (x : Vec) (j i : Nat) : up B k x j i = if j = k then x i else B j i := by
  unfold up; split <;> rfl
/-- columns k and k + 1 exchanged -/
def swp (B : Nat → Vec) (k : Nat) : Nat → Vec := fun j => if j = k then B (k + 1) else if j = k + 1 then B k else B j
theorem swp_app (B : Nat → Vec) (k j i : Nat) : swp B k j i = if j = k then B (k + 1) i else if j = k + 1 then B k i else B j i := by
  unfold swp; split
  · rfl
  · split <;> rfl
def sg : Nat → Int
  | 0 => 1
  | j + 1 => - sg j
theorem sg_succ (j : Nat) : sg (j + 1) = - sg j := rfl
/-- the determinant of the first n columns, in their first n numbers -/
def det : Nat → (Nat → Vec) → Int
  | 0, _ => 1
  | n + 1, B => sm (n + 1) fun j => sg j * B j 0 * det n (cut B j)
theorem det_congr : ∀ {n : Nat} {B C : Nat → Vec}, (∀ k, k < n → ∀ i, i < n → B k i = C k i) → det n B = det n C
  | 0, _, _, _ => rfl
  | n + 1, B, C, h => by
    simp only [det]
    refine sm_congr fun j hj => ?_
    rw [h j hj 0 (by omega), det_congr (n := n) (B := cut B j) (C := cut C j) fun k hk i hi => ?_]
    simp only [cut]
    by_cases e : k < j
    · rw [if_pos e, if_pos e, h k (by omega) (i + 1) (by omega)]
    · rw [if_neg e, if_neg e, h (k + 1) (by omega) (i + 1) (by omega)]
def tl (x : Vec) : Vec := fun i => x (i + 1)
theorem cut_up_lt {B : Nat → Vec} {k j : Nat} {x : Vec} (h : k < j) : cut (up B k x) j = up (cut B j) k (tl x) := by
  funext m i
  grind [cut_app, up_app, tl, swp_app]
theorem cut_up_gt {B : Nat → Vec} {k j : Nat} {x : Vec} (h : j < k) : cut (up B k x) j = up (cut B j) (k - 1) (tl x) := by
  funext m i
  grind [cut_app, up_app, tl, swp_app]
theorem cut_up_same {B : Nat → Vec} {k : Nat} {x : Vec} : cut (up B k x) k = cut B k := by
  funext m i
  grind [cut_app, up_app, tl, swp_app]
theorem det_lin : ∀ {n : Nat} {B : Nat → Vec} {k : Nat} (x y : Vec) (c : Int), k < n → det n (up B k fun i => x i + c * y i) = det n (up B k x) + c * det n (up B k y)
  | 0, _, _, _, _, _, h => by omega
  | n + 1, B, k, x, y, c, hk => by
    simp only [det]
    rw [← sm_mul, ← sm_add]
    refine sm_congr fun j hj => ?_
    rcases Nat.lt_trichotomy k j with h | h | h
    · rw [cut_up_lt h, cut_up_lt h, cut_up_lt h, up_ne (by omega), up_ne (by omega), up_ne (by omega)]
      have := det_lin (n := n) (B := cut B j) (k := k) (tl x) (tl y) c (by omega)
      have e : (tl fun i => x i + c * y i) = fun i => tl x i + c * tl y i := rfl
      rw [e, this]; grind
    · subst h
      rw [cut_up_same, cut_up_same, cut_up_same, up_same, up_same, up_same]; grind
    · rw [cut_up_gt h, cut_up_gt h, cut_up_gt h, up_ne (by omega), up_ne (by omega), up_ne (by omega)]
      have := det_lin (n := n) (B := cut B j) (k := k - 1) (tl x) (tl y) c (by omega)
      have e : (tl fun i => x i + c * y i) = fun i => tl x i + c * tl y i := rfl
      rw [e, this]; grind
theorem cut_swp_lt {B : Nat → Vec} {k j : Nat} (h : j < k) : cut (swp B k) j = swp (cut B j) (k - 1) := by
  funext m i
  grind [cut_app, up_app, tl, swp_app]
theorem cut_swp_gt {B : Nat → Vec} {k j : Nat} (h : k + 1 < j) : cut (swp B k) j = swp (cut B j) k := by
  funext m i
  grind [cut_app, up_app, tl, swp_app]
theorem cut_swp_same {B : Nat → Vec} {k : Nat} : cut (swp B k) k = cut B (k + 1) := by
  funext m i
  grind [cut_app, up_app, tl, swp_app]
theorem cut_swp_next {B : Nat → Vec} {k : Nat} : cut (swp B k) (k + 1) = cut B k := by
  funext m i
  grind [cut_app, up_app, tl, swp_app]
theorem sm_swap {n k : Nat} {f g : Nat → Int} (hk : k + 1 < n) (h1 : f k = g (k + 1)) (h2 : f (k + 1) = g k) (h : ∀ j, j < n → j ≠ k → j ≠ k + 1 → f j = g j) : sm n f = sm n g := by
  have e : sm n (fun j => f j - g j) = 0 := by
    rw [sm_two (k := k) (r := k + 1) (by omega) hk (by omega) fun j hj a b => by rw [h j hj a b]; omega]
    omega
  rw [sm_sub] at e; omega
theorem det_swp : ∀ {n : Nat} {B : Nat → Vec} {k : Nat}, k + 1 < n → det n (swp B k) = - det n B
  | 0, _, _, h => by omega
  | n + 1, B, k, hk => by
    simp only [det]
    rw [← sm_neg]
    refine sm_swap (k := k) hk ?_ ?_ fun j hj h1 h2 => ?_
    · rw [cut_swp_same, sg_succ]
      simp only [swp, if_true]; grind
    · rw [cut_swp_next, sg_succ]
      have : k + 1 ≠ k := by omega
      simp only [swp, if_true, this, if_false]; grind
    · rcases Nat.lt_or_gt_of_ne h1 with h | h
      · rw [cut_swp_lt h, det_swp (n := n) (by omega)]
        simp only [swp, h1, h2, if_false]; grind
      · rw [cut_swp_gt (by omega), det_swp (n := n) (by omega)]
        simp only [swp, h1, h2, if_false]; grind
theorem det_eq_adj {n : Nat} {B : Nat → Vec} {k : Nat} (hk : k + 1 < n) (e : B k = B (k + 1)) : det n B = 0 := by
  have h := det_swp (B := B) hk
  have : swp B k = B := by
    funext j
    simp only [swp]
    by_cases e1 : j = k
    · subst e1; simp [e]
    · by_cases e2 : j = k + 1
      · subst e2; simp [e]
      · simp [e1, e2]
  rw [this] at h; omega
theorem det_eq_lt {n : Nat} : ∀ (m : Nat) {B : Nat → Vec} {r k : Nat}, k = r + 1 + m → k < n → B r = B k → det n B = 0
  | 0, B, r, k, h, hk, e => det_eq_adj (k := r) (by omega) (by rw [e, h])
  | m + 1, B, r, k, h, hk, e => by
    have s := det_swp (B := B) (k := r + 1 + m) (n := n) (by omega)
    have z := det_eq_lt (n := n) m (B := swp B (r + 1 + m)) (r := r) (k := r + 1 + m) rfl (by omega) (by
      have a1 : r ≠ r + 1 + m := by omega
      have a2 : r ≠ r + 1 + m + 1 := by omega
      simp only [swp, a1, a2, if_false, if_true, e, h] ; rfl)
    omega
theorem det_eq {n : Nat} {B : Nat → Vec} {r k : Nat} (hr : r < n) (hk : k < n) (ne : r ≠ k) (e : B r = B k) : det n B = 0 := by
  rcases Nat.lt_or_gt_of_ne ne with h | h
  · exact det_eq_lt (k - r - 1) (by omega) hk e
  · exact det_eq_lt (r - k - 1) (by omega) hr e.symm
/-- columns that are multiples of the unit rows -/
theorem det_diag : ∀ {n : Nat} {g : Nat → Int}, det n (fun k i => if i = k then g k else 0) = (List.range n).foldr (fun k p => g k * p) 1 := by
  intro n
  induction n with
  | zero => intro g; rfl
  | succ n ih =>
    intro g
    simp only [det]
    rw [sm_one (k := 0) (by omega) (by
      intro j _ hj
      have : ¬ (0 : Nat) = j := fun e => hj e.symm
      simp [this])]
    have e : cut (fun k i => if i = k then g k else 0) 0 = fun k i => if i = k then g (k + 1) else 0 := by
      funext k i
      simp [cut]
    rw [e, ih (g := fun k => g (k + 1)), List.range_succ_eq_map, List.foldr_cons, List.foldr_map]
    simp [sg]
end Sx
/-! A basis, what undoes it, and what becomes of both when a column goes out. -/
set_option linter.unusedVariables false
namespace Sx
structure Alt (n : Nat) (F : (Nat → Vec) → Int) : Prop where
  lin : ∀ {B : Nat → Vec} {k : Nat} (x y : Vec) (c : Int), k < n → F (up B k fun i => x i + c * y i) = F (up B k x) + c * F (up B k y)
  eq0 : ∀ {B : Nat → Vec} {r k : Nat}, r < n → k < n → r ≠ k → B r = B k → F B = 0
  cong : ∀ {B C : Nat → Vec}, (∀ k, k < n → ∀ i, i < n → B k i = C k i) → F B = F C
theorem alt_det (n : Nat) (s : Int) : Alt n fun B => s * det n B :=
  ⟨fun x y c h => by simp only [det_lin x y c h]; grind, fun hr hk ne e => by simp only [det_eq hr hk ne e, Int.mul_zero], fun h => by simp only [det_congr h]⟩
variable {n : Nat} {F : (Nat → Vec) → Int}
theorem Alt.zero (A : Alt n F) {B : Nat → Vec} {k : Nat} (hk : k < n) : F (up B k fun _ => 0) = 0 := by
  have := A.lin (B := B) (k := k) (fun _ => 0) (fun _ => 0) 1 hk
  simp only [Int.mul_zero, Int.add_zero] at this
  omega
theorem Alt.add (A : Alt n F) {B : Nat → Vec} {k : Nat} (x y : Vec) (hk : k < n) : F (up B k fun i => x i + y i) = F (up B k x) + F (up B k y) := by
  have := A.lin (B := B) (k := k) x y 1 hk
  simpa using this
theorem Alt.sm (A : Alt n F) {B : Nat → Vec} {k : Nat} (hk : k < n) (c : Nat → Int) (V : Nat → Vec) : ∀ m, F (up B k fun i => Sx.sm m fun j => c j * V j i) = Sx.sm m fun j => c j * F (up B k (V j))
  | 0 => A.zero hk
  | m + 1 => by
    show F (up B k fun i => (Sx.sm m fun j => c j * V j i) + c m * V m i) = (Sx.sm m fun j => c j * F (up B k (V j))) + c m * F (up B k (V m))
    rw [A.lin _ _ _ hk, Alt.sm A hk c V m]
theorem up_cong {B : Nat → Vec} {k : Nat} {x y : Vec} (h : ∀ i, i < n → x i = y i) : ∀ j, j < n → ∀ i, i < n → up B k x j i = up B k y j i := by
  intro j _ i hi
  rw [up_app, up_app]
  split
  · exact h i hi
  · rfl
theorem up_comm {B : Nat → Vec} {k r : Nat} (h : k ≠ r) (x y : Vec) : up (up B k x) r y = up (up B r y) k x := by
  funext j
  grind [up]
theorem up_up {B : Nat → Vec} {k : Nat} (x y : Vec) : up (up B k x) k y = up B k y := by
  funext j
  grind [up]
theorem up_self {B : Nat → Vec} {k : Nat} : up B k (B k) = B := by
  funext j
  grind [up]
theorem Alt.turn (A : Alt n F) {B : Nat → Vec} {r k : Nat} (hr : r < n) (hk : k < n) (ne : r ≠ k) (a b : Vec) : F (up (up B r a) k b) = - F (up (up B r b) k a) := by
  have e : ∀ x, F (up (up B r x) k x) = 0 := fun x => A.eq0 hr hk ne (by rw [up_ne ne, up_same, up_same])
  have h := e fun i => a i + b i
  have ha := e a
  have hb := e b
  rw [A.add _ _ hk, up_comm ne, up_comm ne, A.add _ _ hr, A.add _ _ hr, up_comm (Ne.symm ne), up_comm (Ne.symm ne), up_comm (Ne.symm ne), up_comm (Ne.symm ne)] at h
  omega
/-- the unit row -/
def ev (i : Nat) : Vec := fun j => if j = i then 1 else 0
theorem dot_ev {u : Vec} {i : Nat} (h : i < n) : dot n u (ev i) = u i := by
  unfold dot
  rw [sm_one (k := i) h (by intro j _ hj; simp [ev, hj])]
  simp [ev]
theorem ev_sm {x : Vec} {i : Nat} (h : i < n) : x i = Sx.sm n fun j => x j * ev j i := by
  rw [sm_one (k := i) h (by intro j _ hj; have : ¬ i = j := fun e => hj e.symm; simp [ev, this])]
  simp [ev]
/-- d and N undo B -/
structure Undo (n : Nat) (F : (Nat → Vec) → Int) (d : Int) (N B : Nat → Vec) : Prop where
  pos : 0 < d
  val : F B = d
  cr : ∀ {k}, k < n → ∀ x, dot n (N k) x = F (up B k x)
  sp : ∀ x {i}, i < n → Sx.sm n (fun j => dot n (N j) x * B j i) = d * x i
variable {d : Int} {N B : Nat → Vec}
theorem Undo.same (U : Undo n F d N B) {k : Nat} (hk : k < n) : dot n (N k) (B k) = d := by
  rw [U.cr hk, up_self, U.val]
theorem Undo.other (A : Alt n F) (U : Undo n F d N B) {k j : Nat} (hk : k < n) (hj : j < n) (ne : k ≠ j) : dot n (N k) (B j) = 0 := by
  rw [U.cr hk]
  exact A.eq0 hk hj ne (by rw [up_same, up_ne (Ne.symm ne)])
/-- a form of x, told by what it makes of the columns -/
theorem Undo.form (A : Alt n F) (U : Undo n F d N B) {C : Nat → Vec} {k : Nat} (hk : k < n) (x : Vec) : d * F (up C k x) = Sx.sm n fun j => dot n (N j) x * F (up C k (B j)) := by
  rw [← A.sm hk (fun j => dot n (N j) x) B n]
  have e : F (up C k fun i => Sx.sm n fun j => dot n (N j) x * B j i) = F (up C k fun i => d * x i) := A.cong (up_cong fun i hi => U.sp x hi)
  rw [e]
  have := A.lin (B := C) (k := k) (fun _ => 0) x d hk
  simp only [Int.zero_add] at this
  rw [this, A.zero hk]; omega
theorem Undo.exchange (A : Alt n F) (U : Undo n F d N B) {r k : Nat} (hr : r < n) (hk : k < n) (ne : r ≠ k) (a x : Vec) :
    d * F (up (up B r a) k x) = dot n (N r) a * dot n (N k) x - dot n (N k) a * dot n (N r) x := by
  rw [U.form A hk]
  rw [sm_two (k := k) (r := r) hk hr (Ne.symm ne) fun j hj h1 h2 => by
    rw [A.eq0 hk hj (Ne.symm h1) (by rw [up_same, up_ne h1, up_ne h2]), Int.mul_zero]]
  have e1 : F (up (up B r a) k (B k)) = dot n (N r) a := by
    rw [U.cr hr, up_comm ne, up_self]
  have e2 : F (up (up B r a) k (B r)) = - dot n (N k) a := by
    rw [U.cr hk, A.turn hr hk ne, up_self]
  rw [e1, e2]
  grind
/-- what undoes the columns when a comes in at r -/
def nextN (n : Nat) (d : Int) (N : Nat → Vec) (r : Nat) (a : Vec) : Nat → Vec := fun k => if k = r then N r else fun i => (dot n (N r) a * N k i - dot n (N k) a * N r i).fdiv d
theorem Undo.exact (A : Alt n F) (U : Undo n F d N B) {r k : Nat} (hr : r < n) (hk : k < n) (ne : r ≠ k) (a x : Vec) :
    (dot n (N r) a * dot n (N k) x - dot n (N k) a * dot n (N r) x).fdiv d = F (up (up B r a) k x) := by
  rw [← U.exchange A hr hk ne a x, Int.mul_fdiv_cancel_left _ (by have := U.pos; omega)]
theorem Undo.cr2 (A : Alt n F) (U : Undo n F d N B) {r k : Nat} (hr : r < n) (hk : k < n) (a x : Vec) : dot n (nextN n d N r a k) x = F (up (up B r a) k x) := by
  by_cases e : k = r
  · subst e
    simp only [nextN, if_true]
    rw [U.cr hk, up_up]
  · have ne : r ≠ k := fun h => e h.symm
    have : ∀ i, i < n → nextN n d N r a k i = F (up (up B r a) k (ev i)) := fun i hi => by
      rw [← U.exact A hr hk ne a (ev i), dot_ev hi, dot_ev hi]
      simp only [nextN, e, if_false]
    rw [dot_congr this (fun _ _ => rfl)]
    have h := A.sm (B := up B r a) hk x ev n
    unfold dot
    rw [sm_congr (fun i _ => Int.mul_comm _ _), ← h]
    exact A.cong (up_cong fun i hi => (ev_sm hi).symm)
theorem Undo.next (A : Alt n F) (U : Undo n F d N B) {r : Nat} (hr : r < n) (a : Vec) (lead : 0 < dot n (N r) a) : Undo n F (dot n (N r) a) (nextN n d N r a) (up B r a) := by
  refine ⟨lead, (U.cr hr a).symm, fun hk x => U.cr2 A hr hk a x, fun x i hi => ?_⟩
  have hd := U.pos
  refine Int.eq_of_mul_eq_mul_left (a := d) (by omega) ?_
  rw [← sm_mul]
  have e : (sm n fun j => d * (dot n (nextN n d N r a j) x * up B r a j i)) =
      sm n fun j => dot n (N r) a * (dot n (N j) x * B j i) - dot n (N r) x * (dot n (N j) a * B j i) + (if j = r then d * (dot n (N r) x * a i) else 0) := by
    refine sm_congr fun j hj => ?_
    by_cases h : j = r
    · subst h
      rw [up_same]
      simp only [nextN, if_true]
      grind
    · rw [up_ne h, U.cr2 A hr hj a x]
      have := U.exchange A hr hj (Ne.symm h) a x
      simp only [h, if_false]
      grind
  rw [e, sm_add, sm_sub, sm_mul, sm_mul, U.sp x hi, U.sp a hi, sm_one (k := r) hr (by intro j _ hj; simp [hj])]
  simp only [if_true]
  grind
end Sx
/-! The search: which row goes out, and why no basis comes back. -/
set_option linter.unusedVariables false
namespace Sx
/-- u / a is ahead of v / b -/
def rl (m : Nat) (u : Nat → Int) (a : Int) (v : Nat → Int) (b : Int) : Prop := ∃ i, i < m ∧ u i * b < v i * a ∧ ∀ j, j < i → u j * b = v j * a
theorem q_lt {u v w a b c : Int} (hb : 0 < b) (hc : 0 < c) (ha : 0 < a) (h1 : u * b < v * a) (h2 : v * c ≤ w * b) : u * c < w * a := by
  have e1 := Int.mul_lt_mul_of_pos_right h1 hc
  have e2 := Int.mul_le_mul_of_nonneg_right h2 (Int.le_of_lt ha)
  refine Int.lt_of_mul_lt_mul_right (a := b) ?_ (Int.le_of_lt hb)
  grind
theorem q_le {u v w a b c : Int} (hb : 0 < b) (hc : 0 < c) (ha : 0 < a) (h1 : u * b ≤ v * a) (h2 : v * c < w * b) : u * c < w * a := by
  have e1 := Int.mul_le_mul_of_nonneg_right h1 (Int.le_of_lt hc)
  have e2 := Int.mul_lt_mul_of_pos_right h2 ha
  refine Int.lt_of_mul_lt_mul_right (a := b) ?_ (Int.le_of_lt hb)
  grind
theorem q_eq {u v w a b c : Int} (hb : 0 < b) (h1 : u * b = v * a) (h2 : v * c = w * b) : u * c = w * a := by
  refine Int.eq_of_mul_eq_mul_right (a := b) (by omega) ?_
  grind
theorem rl_trans {m : Nat} {u v w : Nat → Int} {a b c : Int} (ha : 0 < a) (hb : 0 < b) (hc : 0 < c) (h1 : rl m u a v b) (h2 : rl m v b w c) : rl m u a w c := by
  obtain ⟨i, hi, l1, e1⟩ := h1
  obtain ⟨k, hk, l2, e2⟩ := h2
  rcases Nat.lt_trichotomy i k with h | h | h
  · exact ⟨i, hi, q_lt hb hc ha l1 (Int.le_of_eq (e2 i h)), fun j hj => q_eq hb (e1 j hj) (e2 j (by omega))⟩
  · subst h
    exact ⟨i, hi, q_lt hb hc ha l1 (Int.le_of_lt l2), fun j hj => q_eq hb (e1 j hj) (e2 j hj)⟩
  · exact ⟨k, hk, q_le hb hc ha (Int.le_of_eq (e1 k h)) l2, fun j hj => q_eq hb (e1 j (by omega)) (e2 j hj)⟩
theorem rl_irrefl {m : Nat} {u : Nat → Int} {a : Int} : ¬ rl m u a u a := fun ⟨i, _, h, _⟩ => by omega
/-- the first number other than 0 is above 0 -/
def lp (m : Nat) (u : Nat → Int) : Prop := ∃ i, i < m ∧ 0 < u i ∧ ∀ j, j < i → u j = 0
theorem lp_first {m : Nat} {u : Nat → Int} (h : lp m u) : 0 ≤ u 0 := by
  obtain ⟨i, _, p, z⟩ := h
  cases i with
  | zero => omega
  | succ i => exact Int.le_of_eq (z 0 (by omega)).symm
theorem lp_comb {m : Nat} {u v w : Nat → Int} {a b c : Int} (hc : 0 < c) (ha : 0 < a) (hb : 0 ≤ b) (hu : lp m u) (hv : lp m v) (e : ∀ i, i < m → c * w i = a * u i + b * v i) : lp m w := by
  obtain ⟨i, hi, p, z⟩ := hu
  obtain ⟨k, hk, p2, z2⟩ := hv
  have pos : ∀ t, t < m → 0 < a * u t + b * v t → 0 < w t := fun t ht h => by
    rw [← e t ht] at h
    refine Int.lt_of_mul_lt_mul_left (a := c) ?_ (Int.le_of_lt hc)
    omega
  have zer : ∀ t, t < m → a * u t + b * v t = 0 → w t = 0 := fun t ht h => by
    rw [← e t ht] at h
    rcases Int.mul_eq_zero.mp h with h | h <;> omega
  rcases Nat.lt_trichotomy i k with h | h | h
  · exact ⟨i, hi, pos i hi (by rw [z2 i h]; have := Int.mul_pos ha p; omega), fun j hj => zer j (by omega) (by rw [z j hj, z2 j (by omega)]; omega)⟩
  · subst h
    exact ⟨i, hi, pos i hi (by have := Int.mul_pos ha p; have := Int.mul_nonneg hb (Int.le_of_lt p2); omega), fun j hj => zer j (by omega) (by rw [z j hj, z2 j hj]; omega)⟩
  · by_cases hb0 : b = 0
    · subst hb0
      exact ⟨i, hi, pos i hi (by have := Int.mul_pos ha p; omega), fun j hj => zer j (by omega) (by rw [z j hj]; omega)⟩
    · exact ⟨k, hk, pos k hk (by rw [z k h]; have := Int.mul_pos (show 0 < b by omega) p2; omega), fun j hj => zer j (by omega) (by rw [z j (by omega), z2 j hj]; omega)⟩
/-- what is not behind, and not alike, is ahead -/
theorem lp_not_rl {m : Nat} {u v w : Nat → Int} {a b c : Int} (hc : 0 < c) (h : ¬ rl m u a v b) (e : ∀ i, i < m → c * w i = b * u i - a * v i) (nz : ∃ i, i < m ∧ w i ≠ 0) : lp m w := by
  have key : ∀ t, t ≤ m → (∀ j, j < t → w j = 0) ∨ lp m w := fun t => by
    induction t with
    | zero => exact fun _ => .inl fun j hj => by omega
    | succ t ih =>
      intro ht
      rcases ih (by omega) with z | z
      · rcases Int.lt_trichotomy (w t) 0 with l | l | l
        · refine absurd ⟨t, by omega, ?_, fun j hj => ?_⟩ h
          · have := e t (by omega)
            have l2 := Int.mul_neg_of_pos_of_neg hc l
            have e1 := Int.mul_comm b (u t)
            have e2 := Int.mul_comm a (v t)
            omega
          · have := e j (by omega)
            rw [z j hj, Int.mul_zero] at this
            have e1 := Int.mul_comm b (u j)
            have e2 := Int.mul_comm a (v j)
            omega
        · refine .inl fun j hj => ?_
          by_cases ej : j = t
          · rw [ej, l]
          · exact z j (by omega)
        · exact .inr ⟨t, by omega, l, z⟩
      · exact .inr z
  rcases key m (Nat.le_refl _) with z | z
  · obtain ⟨i, hi, h⟩ := nz
    exact absurd (z i hi) h
  · exact z
/-! ## counting -/
theorem count_lt {α : Type} {p q : α → Bool} : ∀ {l : List α}, (∀ x ∈ l, p x = true → q x = true) → (∃ x ∈ l, q x = true ∧ p x = false) → l.countP p < l.countP q
  | [], _, h => by obtain ⟨x, hx, _⟩ := h; cases hx
  | y :: l, h, ⟨x, hx, h1, h2⟩ => by
    have le : l.countP p ≤ l.countP q := List.countP_mono_left fun z hz hp => h z (List.mem_cons_of_mem _ hz) hp
    simp only [List.countP_cons]
    rcases List.mem_cons.mp hx with e | e
    · subst e
      rw [h1, h2]; simp only [if_true]
      have : (if false = true then 1 else 0 : Nat) = 0 := rfl
      omega
    · have lt := count_lt (l := l) (fun z hz => h z (List.mem_cons_of_mem _ hz)) ⟨x, e, h1, h2⟩
      have hy := h y List.mem_cons_self
      cases hp : p y
      · simp only [Bool.false_eq_true, if_false]; omega
      · rw [hy hp]; simp only [if_true]; omega
abbrev Mem := Nat → Option Nat
def opts (m : Nat) : List (Option Nat) := none :: (List.range m).map some
/-- all choices of members for n places out of m -/
def allM (m : Nat) : Nat → List Mem
  | 0 => [fun _ => none]
  | n + 1 => (allM m n).flatMap fun f => (opts m).map fun v k => if k = n then v else f k
theorem mem_allM {m : Nat} : ∀ {n : Nat} {M : Mem}, (∀ k, n ≤ k → M k = none) → (∀ k, k < n → ∀ j, M k = some j → j < m) → M ∈ allM m n
  | 0, M, h, _ => by
    have : M = fun _ => none := funext fun k => h k (by omega)
    simp [allM, this]
  | n + 1, M, h, g => by
    simp only [allM, List.mem_flatMap, List.mem_map]
    refine ⟨fun k => if k = n then none else M k, mem_allM (fun k hk => ?_) (fun k hk j => ?_), M n, ?_, ?_⟩
    · by_cases e : k = n
      · simp [e]
      · simp only [e, if_false]; exact h k (by omega)
    · have e : k ≠ n := by omega
      simp only [e, if_false]; exact g k (by omega) j
    · cases e : M n with
      | none => simp [opts]
      | some j => simp [opts, g n (by omega) j e]
    · funext k
      by_cases e : k = n
      · simp [e]
      · simp [e]
/-! ## the rows of a basis -/
section
variable {n : Nat} {F : (Nat → Vec) → Int} {m : Nat}
/-- what the rows are held to: the goal, then the unit rows -/
def xt (goal : Vec) : Nat → Vec
  | 0 => goal
  | i + 1 => ev i
/-- the columns of a choice of members -/
def bm (C B0 : Nat → Vec) (M : Mem) : Nat → Vec := fun k => match M k with
  | none => B0 k
  | some j => C j
def put (M : Mem) (r j : Nat) : Mem := fun k => if k = r then some j else M k
theorem bm_put {C B0 : Nat → Vec} {M : Mem} {r j : Nat} : bm C B0 (put M r j) = up (bm C B0 M) r (C j) := by
  funext k
  by_cases e : k = r
  · subst e; simp [bm, put, up]
  · simp [bm, put, up, e]
def wgt (F : (Nat → Vec) → Int) (n : Nat) (goal : Vec) (C B0 : Nat → Vec) (M : Mem) : Nat → Int := fun i => sm n fun k => if M k = none then F (up (bm C B0 M) k (xt goal i)) else 0
open Classical in
noncomputable def ahead (F : (Nat → Vec) → Int) (n : Nat) (goal : Vec) (C B0 : Nat → Vec) (M M' : Mem) : Bool :=
  decide (0 < F (bm C B0 M') ∧ rl (n + 1) (wgt F n goal C B0 M') (F (bm C B0 M')) (wgt F n goal C B0 M) (F (bm C B0 M)))
noncomputable def mu (F : (Nat → Vec) → Int) (n m : Nat) (goal : Vec) (C B0 : Nat → Vec) (M : Mem) : Nat := (allM m n).countP (ahead F n goal C B0 M)
open Classical in
theorem mu_lt {goal : Vec} {C B0 : Nat → Vec} {M M' : Mem} (h : M' ∈ allM m n) (p : 0 < F (bm C B0 M)) (p' : 0 < F (bm C B0 M'))
    (l : rl (n + 1) (wgt F n goal C B0 M') (F (bm C B0 M')) (wgt F n goal C B0 M) (F (bm C B0 M))) : mu F n m goal C B0 M' < mu F n m goal C B0 M := by
  refine count_lt (fun x _ hx => ?_) ⟨M', h, by simp [ahead, p', l], ?_⟩
  · have := of_decide_eq_true hx
    exact decide_eq_true ⟨this.1, rl_trans this.1 p' p this.2 l⟩
  · exact decide_eq_false fun ⟨_, q⟩ => rl_irrefl q
end
end Sx
/-! A state of the search, its next one, and what is told at the end. -/
set_option linter.unusedVariables false
namespace Sx
structure St where
  d : Int
  L : Nat → Int
  M : Mem
  N : Nat → Vec
variable {n m : Nat} {F : (Nat → Vec) → Int} {goal : Vec} {C B0 : Nat → Vec}
/-- row k: its level, then its numbers -/
def St.row (s : St) (k : Nat) : Nat → Int
  | 0 => s.L k
  | i + 1 => s.N k i
def St.lift (n : Nat) (s : St) (a : Vec) (k : Nat) : Int := dot n (s.N k) a
def St.price (n : Nat) (s : St) : Vec := fun i => sm n fun k => if s.M k = none then s.N k i else 0
def St.lack (n : Nat) (s : St) : Int := sm n fun k => if s.M k = none then s.L k else 0
def St.next (n : Nat) (s : St) (a : Vec) (r j : Nat) : St :=
  { d := s.lift n a r
    L := fun k => if k = r then s.L r else (s.lift n a r * s.L k - s.lift n a k * s.L r).fdiv s.d
    M := put s.M r j
    N := nextN n s.d s.N r a }
structure Good (n m : Nat) (F : (Nat → Vec) → Int) (goal : Vec) (C B0 : Nat → Vec) (s : St) : Prop where
  A : Alt n F
  U : Undo n F s.d s.N (bm C B0 s.M)
  lv : ∀ k, k < n → s.L k = dot n (s.N k) goal
  lx : ∀ k, k < n → lp (n + 1) (s.row k)
  out : ∀ k, n ≤ k → s.M k = none
  inn : ∀ k, k < n → ∀ j, s.M k = some j → j < m
theorem Good.row_eq {s : St} (G : Good n m F goal C B0 s) {k : Nat} (hk : k < n) {i : Nat} (hi : i < n + 1) : s.row k i = F (up (bm C B0 s.M) k (xt goal i)) := by
  rw [← G.U.cr hk]
  cases i with
  | zero => exact G.lv k hk
  | succ i => exact (dot_ev (n := n) (u := s.N k) (i := i) (by omega)).symm
theorem Good.wgt_eq {s : St} (G : Good n m F goal C B0 s) {i : Nat} (hi : i < n + 1) : wgt F n goal C B0 s.M i = sm n fun k => if s.M k = none then s.row k i else 0 :=
  sm_congr fun k hk => by
    split
    · exact (G.row_eq hk hi).symm
    · rfl
theorem St.price_dot (s : St) (x : Vec) : dot n (s.price n) x = sm n fun k => if s.M k = none then s.lift n x k else 0 := by
  unfold dot St.price
  rw [sm_congr (n := n) (fun i _ => (sm_mulr n (x i) fun k => if s.M k = none then s.N k i else 0).symm), sm_comm]
  refine sm_congr fun k _ => ?_
  split
  · rfl
  · exact sm_zero fun _ _ => by simp
theorem Good.next_row {s : St} (G : Good n m F goal C B0 s) {r j : Nat} (hr : r < n) {k : Nat} (hk : k < n) (ne : k ≠ r) (lead : 0 < s.lift n (C j) r) {i : Nat} (hi : i < n + 1) :
    s.d * (s.next n (C j) r j).row k i = s.lift n (C j) r * s.row k i - s.lift n (C j) k * s.row r i := by
  have h := G.U.exact G.A hr hk (Ne.symm ne) (C j) (xt goal i)
  have h2 := G.U.exchange G.A hr hk (Ne.symm ne) (C j) (xt goal i)
  have e1 : dot n (s.N k) (xt goal i) = s.row k i := by rw [G.row_eq hk hi, G.U.cr hk]
  have e2 : dot n (s.N r) (xt goal i) = s.row r i := by rw [G.row_eq hr hi, G.U.cr hr]
  rw [e1, e2] at h h2
  have e3 : (s.next n (C j) r j).row k i = (dot n (s.N r) (C j) * s.row k i - dot n (s.N k) (C j) * s.row r i).fdiv s.d := by
    cases i with
    | zero => simp only [St.row, St.next, ne, if_false, St.lift]
    | succ i => simp only [St.row, St.next, nextN, ne, if_false]
  rw [e3, h, h2]
  rfl
theorem Good.next {s : St} (G : Good n m F goal C B0 s) {r j : Nat} (hr : r < n) (hj : j < m) (lead : 0 < s.lift n (C j) r)
    (least : ∀ k, k < n → 0 < s.lift n (C j) k → ¬ rl (n + 1) (s.row k) (s.lift n (C j) k) (s.row r) (s.lift n (C j) r)) :
    Good n m F goal C B0 (s.next n (C j) r j) := by
  have U2 : Undo n F (s.lift n (C j) r) (nextN n s.d s.N r (C j)) (bm C B0 (put s.M r j)) := by
    rw [bm_put]
    exact G.U.next G.A hr (C j) lead
  have hd := G.U.pos
  refine ⟨G.A, U2, fun k hk => ?_, fun k hk => ?_, fun k hk => ?_, fun k hk j' e => ?_⟩
  · show (if k = r then s.L r else (s.lift n (C j) r * s.L k - s.lift n (C j) k * s.L r).fdiv s.d) = dot n (nextN n s.d s.N r (C j) k) goal
    split
    · next e => subst e; rw [G.lv k hk]; simp [nextN]
    · next e =>
      rw [U2.cr hk, bm_put, G.lv k hk, G.lv r hr]
      exact G.U.exact G.A hr hk (fun h => e h.symm) (C j) goal
  · by_cases e : k = r
    · subst e
      have : (s.next n (C j) k j).row k = s.row k := by
        funext i
        cases i with
        | zero => simp [St.row, St.next]
        | succ i => simp [St.row, St.next, nextN]
      rw [this]; exact G.lx k hk
    · have nr := fun i hi => G.next_row hr hk e lead (i := i) hi
      by_cases lk : 0 < s.lift n (C j) k
      · refine lp_not_rl hd (least k hk lk) nr ?_
        have sm2 := U2.same hk
        by_cases z : ∃ i, i < n + 1 ∧ (s.next n (C j) r j).row k i ≠ 0
        · exact z
        · refine absurd sm2 ?_
          have : dot n (nextN n s.d s.N r (C j) k) (bm C B0 (put s.M r j) k) = 0 := sm_zero fun i hi => by
            have : (s.next n (C j) r j).row k (i + 1) = 0 := Classical.byContradiction fun h => z ⟨i + 1, by omega, h⟩
            have e2 : nextN n s.d s.N r (C j) k i = 0 := this
            rw [e2, Int.zero_mul]
          rw [this]; omega
      · refine lp_comb (a := s.lift n (C j) r) (b := - s.lift n (C j) k) hd lead (by omega) (G.lx k hk) (G.lx r hr) fun i hi => ?_
        rw [nr i hi, Int.neg_mul]; omega
  · show put s.M r j k = none
    have : k ≠ r := by omega
    simp only [put, this, if_false]; exact G.out k hk
  · have e : put s.M r j k = some j' := e
    unfold put at e
    split at e
    · cases e; exact hj
    · exact G.inn k hk j' e
theorem Good.less {s : St} (G : Good n m F goal C B0 s) {r j : Nat} (hr : r < n) (hj : j < m) (lead : 0 < s.lift n (C j) r)
    (least : ∀ k, k < n → 0 < s.lift n (C j) k → ¬ rl (n + 1) (s.row k) (s.lift n (C j) k) (s.row r) (s.lift n (C j) r))
    (worth : 0 < dot n (s.price n) (C j)) : mu F n m goal C B0 (s.next n (C j) r j).M < mu F n m goal C B0 s.M := by
  have G2 := G.next hr hj lead least
  have hd := G.U.pos
  refine mu_lt (mem_allM G2.out G2.inn) (by rw [G.U.val]; exact hd) (by rw [G2.U.val]; exact G2.U.pos) ?_
  rw [G.U.val, G2.U.val]
  have key : ∀ i, i < n + 1 → wgt F n goal C B0 (s.next n (C j) r j).M i * s.d = wgt F n goal C B0 s.M i * (s.next n (C j) r j).d - dot n (s.price n) (C j) * s.row r i := fun i hi => by
    rw [G2.wgt_eq hi, G.wgt_eq hi, St.price_dot, ← sm_mulr, ← sm_mulr, ← sm_mulr, ← sm_sub]
    refine sm_congr fun k hk => ?_
    show (if put s.M r j k = none then (s.next n (C j) r j).row k i else 0) * s.d = (if s.M k = none then s.row k i else 0) * s.lift n (C j) r - (if s.M k = none then s.lift n (C j) k else 0) * s.row r i
    by_cases e : k = r
    · subst e
      simp only [put, if_true]
      have : ¬ (some j = (none : Option Nat)) := by simp
      simp only [this, if_false]
      split <;> grind
    · simp only [put, e, if_false]
      split
      · have := G.next_row hr hk e lead (i := i) hi
        grind
      · grind
  obtain ⟨i, hi, p, z⟩ := G.lx r hr
  refine ⟨i, hi, ?_, fun t ht => ?_⟩
  · rw [key i hi]
    have := Int.mul_pos worth p
    omega
  · rw [key t (by omega), z t ht]; omega
/-- some row may go out -/
theorem Good.some_row {s : St} {a : Vec} (worth : 0 < dot n (s.price n) a) : ∃ k, k < n ∧ 0 < s.lift n a k := by
  rw [St.price_dot] at worth
  obtain ⟨k, hk, h⟩ := sm_pos worth
  refine ⟨k, hk, ?_⟩
  split at h <;> omega
theorem Good.level {s : St} (G : Good n m F goal C B0 s) {k : Nat} (hk : k < n) : 0 ≤ s.L k := lp_first (G.lx k hk)
theorem Good.lack_nonneg {s : St} (G : Good n m F goal C B0 s) : 0 ≤ s.lack n := sm_nonneg fun k hk => by
  split
  · exact G.level hk
  · omega
theorem Good.price_goal {s : St} (G : Good n m F goal C B0 s) : dot n (s.price n) goal = s.lack n := by
  rw [St.price_dot]
  refine sm_congr fun k hk => ?_
  split
  · exact (G.lv k hk).symm
  · rfl
/-- the members are different -/
theorem Good.members {s : St} (G : Good n m F goal C B0 s) {k r j : Nat} (hk : k < n) (hr : r < n) (h1 : s.M k = some j) (h2 : s.M r = some j) : k = r := by
  refine Classical.byContradiction fun ne => ?_
  have := G.A.eq0 (B := bm C B0 s.M) hk hr ne (by simp [bm, h1, h2])
  have p := G.U.pos
  rw [G.U.val] at this; omega
def St.count (n : Nat) (s : St) (j : Nat) : Int := sm n fun k => if s.M k = some j then s.L k else 0
theorem Good.count_nonneg {s : St} (G : Good n m F goal C B0 s) (j : Nat) : 0 ≤ s.count n j := sm_nonneg fun k hk => by
  split
  · exact G.level hk
  · omega
theorem Good.count_at {s : St} (G : Good n m F goal C B0 s) {k j : Nat} (hk : k < n) (h : s.M k = some j) : s.count n j = s.L k := by
  unfold St.count
  rw [sm_one (k := k) hk fun r hr ne => ?_]
  · simp [h]
  · split
    · next e => exact absurd (G.members hr hk e h) ne
    · rfl
/-- nothing is lacking: the counts make the goal -/
theorem Good.deal {s : St} (G : Good n m F goal C B0 s) (h : s.lack n ≤ 0) {i : Nat} (hi : i < n) : sm m (fun j => s.count n j * C j i) = s.d * goal i := by
  have z : ∀ k, k < n → s.M k = none → s.L k = 0 := fun k hk e => by
    have := sm_eq_zero (n := n) (f := fun k => if s.M k = none then s.L k else 0) (fun k hk => by
      split
      · exact G.level hk
      · omega) h k hk
    simpa [e] using this
  rw [← G.U.sp goal hi]
  have e : ∀ j, j < m → s.count n j * C j i = sm n fun k => if s.M k = some j then s.L k * C j i else 0 := fun j _ => by
    unfold St.count
    rw [← sm_mulr]
    refine sm_congr fun k _ => ?_
    split <;> simp
  rw [sm_congr e, sm_comm]
  refine sm_congr fun k hk => ?_
  rw [← G.lv k hk]
  cases e2 : s.M k with
  | none => rw [z k hk e2, Int.zero_mul]; exact sm_zero fun j _ => by simp
  | some j =>
    rw [sm_one (k := j) (G.inn k hk j e2) fun j' _ ne => by
      have : ¬ j = j' := fun h => ne h.symm
      simp [this]]
    simp [bm, e2]
/-! ## the first state -/
def sgn (g : Int) : Int := if g < 0 then -1 else 1
theorem sgn_sgn (g : Int) : sgn g * sgn g = 1 := by unfold sgn; split <;> rfl
theorem sgn_mul (g : Int) : sgn g * g = g.natAbs := by unfold sgn; split <;> omega
def dg (g : Nat → Int) : Nat → Vec := fun k i => if i = k then g k else 0
def prd (n : Nat) (g : Nat → Int) : Int := (List.range n).foldr (fun k p => g k * p) 1
def St.first (goal : Vec) : St := ⟨1, fun k => (goal k).natAbs, fun _ => none, dg fun k => sgn (goal k)⟩
theorem prd_sq {g : Nat → Int} (h : ∀ k, g k * g k = 1) (l : List Nat) : l.foldr (fun k p => g k * p) 1 * l.foldr (fun k p => g k * p) 1 = 1 := by
  induction l with
  | nil => rfl
  | cons k l ih => simp only [List.foldr_cons]; have := h k; grind
def first (n : Nat) (goal : Vec) : (Nat → Vec) → Int := fun B => prd n (fun k => sgn (goal k)) * det n B
theorem dg_dot {g : Nat → Int} {x : Vec} {k : Nat} (hk : k < n) : dot n (dg g k) x = g k * x k := by
  unfold dot
  rw [sm_one (k := k) hk (by intro j _ hj; simp [dg, hj])]
  simp [dg]
theorem good_first : Good n m (first n goal) goal C (dg fun k => sgn (goal k)) (St.first goal) := by
  have A : Alt n (first n goal) := alt_det n _
  have v : first n goal (dg fun k => sgn (goal k)) = 1 := by
    unfold first dg
    rw [det_diag]
    exact prd_sq (fun k => sgn_sgn _) _
  have b : bm C (dg fun k => sgn (goal k)) (St.first goal).M = dg fun k => sgn (goal k) := rfl
  refine ⟨A, ⟨by show (0 : Int) < 1; omega, ?_, fun {k} hk x => ?_, fun x i hi => ?_⟩, fun k hk => ?_, fun k hk => ?_, fun _ _ => rfl, fun k _ j e => ?_⟩
  · rw [b]; exact v
  · rw [b]
    show dot n (dg (fun k => sgn (goal k)) k) x = _
    rw [dg_dot hk]
    have e : first n goal (up (dg fun k => sgn (goal k)) k x) = first n goal (up (dg fun k => sgn (goal k)) k fun i => sm n fun j => (x j * sgn (goal j)) * dg (fun k => sgn (goal k)) j i) := by
      refine A.cong (up_cong fun i hi => ?_)
      rw [sm_one (k := i) hi (by intro j _ hj; have : ¬ i = j := fun e => hj e.symm; simp [dg, this])]
      have := sgn_sgn (goal i)
      simp only [dg, if_true]; grind
    rw [e, A.sm hk, sm_one (k := k) hk fun j hj ne => by
      rw [A.eq0 hk hj (Ne.symm ne) (by rw [up_same, up_ne ne]), Int.mul_zero]]
    rw [up_self, v]; grind
  · rw [b]
    show (sm n fun j => dot n (dg (fun k => sgn (goal k)) j) x * _) = 1 * x i
    rw [sm_one (k := i) hi (by intro j _ hj; have : ¬ i = j := fun e => hj e.symm; simp [dg, this]), dg_dot hi]
    have := sgn_sgn (goal i)
    simp only [dg, if_true]; grind
  · show ((goal k).natAbs : Int) = dot n (dg (fun k => sgn (goal k)) k) goal
    rw [dg_dot hk, sgn_mul]
  · by_cases z : goal k = 0
    · refine ⟨k + 1, by omega, ?_, fun j hj => ?_⟩
      · show 0 < dg (fun k => sgn (goal k)) k k
        simp [dg, z, sgn]
      · cases j with
        | zero => show ((goal k).natAbs : Int) = 0; omega
        | succ j =>
          show dg (fun k => sgn (goal k)) k j = 0
          have : j ≠ k := by omega
          simp [dg, this]
    · exact ⟨0, by omega, by show 0 < ((goal k).natAbs : Int); omega, fun j hj => by omega⟩
  · cases e
/-! ## how great the numbers are -/
def fac : Nat → Nat
  | 0 => 1
  | n + 1 => (n + 1) * fac n
theorem sm_abs {n : Nat} {f : Nat → Int} {b : Nat} (h : ∀ k, k < n → (f k).natAbs ≤ b) : (sm n f).natAbs ≤ n * b := by
  induction n with
  | zero => simp [sm]
  | succ n ih =>
    have h1 := ih fun k hk => h k (by omega)
    have h2 := h n (by omega)
    simp only [sm]
    have := Int.natAbs_add_le (sm n f) (f n)
    rw [Nat.succ_mul]; omega
theorem sg_abs (j : Nat) : (sg j).natAbs = 1 := by
  induction j with
  | zero => rfl
  | succ j ih => simp only [sg]; omega
theorem det_abs : ∀ {n : Nat} {B : Nat → Vec} {b : Nat}, (∀ k, k < n → ∀ i, i < n → (B k i).natAbs ≤ b) → (det n B).natAbs ≤ fac n * b ^ n
  | 0, _, _, _ => by simp [det, fac]
  | n + 1, B, b, h => by
    have := sm_abs (n := n + 1) (f := fun j => sg j * B j 0 * det n (cut B j)) (b := b * (fac n * b ^ n)) fun j hj => by
      rw [Int.natAbs_mul, Int.natAbs_mul, sg_abs, Nat.one_mul]
      refine Nat.mul_le_mul (h j hj 0 (by omega)) (det_abs fun k hk i hi => ?_)
      rw [cut_app]
      split
      · exact h k (by omega) (i + 1) (by omega)
      · exact h (k + 1) (by omega) (i + 1) (by omega)
    simp only [det]
    refine Nat.le_trans this (Nat.le_of_eq ?_)
    simp only [fac, Nat.pow_succ]; grind
theorem first_abs {B : Nat → Vec} {b : Nat} (h : ∀ k, k < n → ∀ i, i < n → (B k i).natAbs ≤ b) : (first n goal B).natAbs ≤ fac n * b ^ n := by
  unfold first
  have e : (prd n fun k => sgn (goal k)).natAbs = 1 := by
    have := prd_sq (g := fun k => sgn (goal k)) (fun k => sgn_sgn _) (List.range n)
    have h2 : (prd n fun k => sgn (goal k)).natAbs * (prd n fun k => sgn (goal k)).natAbs = 1 := by
      rw [← Int.natAbs_mul]
      show ((List.range n).foldr (fun k p => sgn (goal k) * p) 1 * (List.range n).foldr (fun k p => sgn (goal k) * p) 1).natAbs = 1
      rw [this]; rfl
    exact Nat.eq_one_of_mul_eq_one_left h2
  rw [Int.natAbs_mul, e, Nat.one_mul]
  exact det_abs h
end Sx
/-! Rows as lists: greatest common divisors, sparse rows, sums. -/
set_option linter.unusedVariables false
namespace Sx
theorem sm_succ' (n : Nat) (f : Nat → Int) : sm (n + 1) f = f 0 + sm n fun i => f (i + 1) := by
  induction n with
  | zero => simp [sm]
  | succ n ih =>
    have : sm (n + 1 + 1) f = sm (n + 1) f + f (n + 1) := rfl
    rw [this, ih]; simp only [sm]; omega
/-- a list as a row without end -/
def fn (r : List Int) : Vec := fun i => r.getD i 0
theorem fn_zero (a : Int) (r : List Int) : fn (a :: r) 0 = a := rfl
theorem fn_succ (a : Int) (r : List Int) (i : Nat) : fn (a :: r) (i + 1) = fn r i := rfl
theorem fn_at {r : List Int} {i : Nat} (h : i < r.length) : r[i]? = some (fn r i) := by
  unfold fn
  rw [List.getD_eq_getElem?_getD, List.getElem?_eq_getElem h]; rfl
theorem fn_out {r : List Int} {i : Nat} (h : r.length ≤ i) : fn r i = 0 := by
  unfold fn
  rw [List.getD_eq_getElem?_getD, List.getElem?_eq_none h]; rfl
theorem fn_mem {r : List Int} {i : Nat} (h : i < r.length) : fn r i ∈ r := List.mem_of_getElem? (fn_at h)
theorem fn_of {r : List Int} {i : Nat} {v : Int} (h : r[i]? = some v) : fn r i = v := by
  unfold fn
  rw [List.getD_eq_getElem?_getD, h]; rfl
theorem fn_map (f : Int → Int) (h0 : f 0 = 0) (r : List Int) (i : Nat) : fn (r.map f) i = f (fn r i) := by
  unfold fn
  rw [List.getD_eq_getElem?_getD, List.getD_eq_getElem?_getD, List.getElem?_map]
  cases r[i]? <;> simp [h0]
theorem fn_range {n : Nat} {f : Nat → Int} {i : Nat} (h : i < n) : fn ((List.range n).map f) i = f i := fn_of (by simp [h])
/-- the greatest number that divides all -/
def gcdL (r : List Int) : Nat := r.foldl (fun a b => Nat.gcd a b.natAbs) 0
theorem gcd_fold_dvd (r : List Int) : ∀ a : Nat, (r.foldl (fun a b => Nat.gcd a b.natAbs) a ∣ a) ∧ ∀ x ∈ r, ((r.foldl (fun a b => Nat.gcd a b.natAbs) a : Nat) : Int) ∣ x := by
  induction r with
  | nil => exact fun a => ⟨Nat.dvd_refl _, fun x h => by simp at h⟩
  | cons y r ih =>
    intro a
    obtain ⟨h1, h2⟩ := ih (Nat.gcd a y.natAbs)
    refine ⟨Nat.dvd_trans h1 (Nat.gcd_dvd_left ..), fun x hx => ?_⟩
    rcases List.mem_cons.mp hx with rfl | hx
    · exact Int.ofNat_dvd_left.mpr (Nat.dvd_trans h1 (Nat.gcd_dvd_right ..))
    · exact h2 x hx
theorem gcd_dvd {r : List Int} {x : Int} (h : x ∈ r) : (gcdL r : Int) ∣ x := (gcd_fold_dvd r 0).2 x h
theorem gcd_fold_of (r : List Int) : ∀ (a d : Nat), d ∣ a → (∀ x ∈ r, (d : Int) ∣ x) → d ∣ r.foldl (fun a b => Nat.gcd a b.natAbs) a := by
  induction r with
  | nil => exact fun a d h _ => h
  | cons y r ih =>
    intro a d h g
    exact ih _ _ (Nat.dvd_gcd h (Int.ofNat_dvd_left.mp (g y (by simp)))) fun x hx => g x (by simp [hx])
theorem dvd_gcd {r : List Int} {d : Nat} (h : ∀ x ∈ r, (d : Int) ∣ x) : d ∣ gcdL r := gcd_fold_of r 0 d (Nat.dvd_zero _) h
theorem gcd_zero {r : List Int} (h : gcdL r = 0) : ∀ x ∈ r, x = 0 := fun x hx => by
  have := gcd_dvd hx
  rw [h] at this
  exact Int.zero_dvd.mp this
theorem gcd_le {r : List Int} {x : Int} (h : x ∈ r) (ne : x ≠ 0) : gcdL r ≤ x.natAbs := Nat.le_of_dvd (by omega) (Int.ofNat_dvd_left.mp (gcd_dvd h))
theorem gcd_wide {r : List Int} {b : Nat} (h : ∀ x ∈ r, x.natAbs < b) (hb : 0 < b) : gcdL r < b := by
  by_cases z : gcdL r = 0
  · omega
  · have : ∃ x ∈ r, x ≠ 0 := Classical.byContradiction fun q => by
      have : 0 ∣ gcdL r := dvd_gcd (d := 0) fun x hx => by
        have : x = 0 := Classical.byContradiction fun w => q ⟨x, hx, w⟩
        rw [this]; exact Int.dvd_zero _
      have := Nat.eq_zero_of_zero_dvd this
      omega
    obtain ⟨x, hx, ne⟩ := this
    exact Nat.lt_of_le_of_lt (gcd_le hx ne) (h x hx)
/-- divided by what divides all -/
def red (r : List Int) : List Int := if gcdL r < 2 then r else r.map fun x => x / (gcdL r : Int)
/-- by what it is multiplied to be the row -/
def redG (r : List Int) : Nat := if gcdL r < 2 then 1 else gcdL r
theorem redG_pos (r : List Int) : 0 < redG r := by unfold redG; split <;> omega
theorem red_len (r : List Int) : (red r).length = r.length := by unfold red; split <;> simp
theorem red_at (r : List Int) (i : Nat) : fn r i = (redG r : Int) * fn (red r) i := by
  unfold red redG
  split
  · simp
  · next h =>
    rw [fn_map (fun x => x / (gcdL r : Int)) (Int.zero_ediv _)]
    by_cases l : i < r.length
    · exact (Int.mul_ediv_cancel' (gcd_dvd (fn_mem l))).symm
    · rw [fn_out (by omega)]; simp
theorem red_gcd {r : List Int} (h : gcdL r ≠ 0) : gcdL (red r) = 1 := by
  unfold red
  split
  · omega
  · next h2 =>
    have g : gcdL r * gcdL (r.map fun x => x / (gcdL r : Int)) ∣ gcdL r := dvd_gcd fun x hx => by
      have h1 : ((gcdL (r.map fun x => x / (gcdL r : Int)) : Nat) : Int) ∣ x / (gcdL r : Int) := gcd_dvd (List.mem_map_of_mem hx)
      have h3 := Int.mul_dvd_mul (Int.dvd_refl (gcdL r : Int)) h1
      rw [Int.mul_ediv_cancel' (gcd_dvd hx)] at h3
      rw [Int.natCast_mul]; exact h3
    have := Nat.le_of_dvd (by omega) g
    have p : 0 < gcdL r := by omega
    have q : gcdL (r.map fun x => x / (gcdL r : Int)) ≤ 1 := by
      refine Nat.le_of_mul_le_mul_left (c := gcdL r) ?_ p
      omega
    have ne : gcdL (r.map fun x => x / (gcdL r : Int)) ≠ 0 := fun z => by
      rw [z] at g
      have := Nat.eq_zero_of_zero_dvd (by simpa using g)
      omega
    omega
/-- the places and numbers of a row that are not 0 -/
def sp : List Int → Nat → List (Nat × Int)
  | [], _ => []
  | v :: c, k => if v ≠ 0 then (k, v) :: sp c (k + 1) else sp c (k + 1)
theorem sp_sum (P : Nat → Int) : ∀ (c : List Int) (k : Nat), ((sp c k).map fun q => P q.1 * q.2).sum = sm c.length fun i => P (k + i) * fn c i
  | [], k => rfl
  | v :: c, k => by
    have ih := sp_sum P c (k + 1)
    rw [List.length_cons, sm_succ']
    have e : (sm c.length fun i => P (k + (i + 1)) * fn (v :: c) (i + 1)) = sm c.length fun i => P (k + 1 + i) * fn c i := sm_congr fun i _ => by
      rw [fn_succ]
      have : k + (i + 1) = k + 1 + i := by omega
      rw [this]
    rw [e, ← ih, fn_zero, Nat.add_zero]
    simp only [sp]
    split
    · simp
    · next h =>
      have : v = 0 := by simpa using h
      subst this; simp
theorem sp_lt : ∀ (c : List Int) (k : Nat) (q : Nat × Int), q ∈ sp c k → k ≤ q.1 ∧ q.1 < k + c.length ∧ q.2 ∈ c
  | [], k, q, h => by simp [sp] at h
  | v :: c, k, q, h => by
    simp only [sp] at h
    split at h
    · rcases List.mem_cons.mp h with rfl | h
      · exact ⟨Nat.le_refl _, by simp, by simp⟩
      · have := sp_lt c (k + 1) q h
        exact ⟨by omega, by simp only [List.length_cons]; omega, List.mem_cons_of_mem _ this.2.2⟩
    · have := sp_lt c (k + 1) q h
      exact ⟨by omega, by simp only [List.length_cons]; omega, List.mem_cons_of_mem _ this.2.2⟩
theorem sp_len (c : List Int) (k : Nat) : (sp c k).length ≤ c.length := by
  induction c generalizing k with
  | nil => simp [sp]
  | cons v c ih =>
    simp only [sp]
    have := ih (k + 1)
    split <;> simp only [List.length_cons] <;> omega
theorem sum_range (n : Nat) (f : Nat → Int) : ((List.range n).map f).sum = sm n f := by
  induction n with
  | zero => rfl
  | succ n ih => rw [List.range_succ, List.map_append, List.sum_append, ih]; simp [sm]
theorem sum_zip (f : Int → Int → Int) : ∀ (r s : List Int), r.length = s.length → (List.zipWith f r s).sum = sm r.length fun i => f (fn r i) (fn s i)
  | [], [], _ => rfl
  | [], _ :: _, h => by simp at h
  | _ :: _, [], h => by simp at h
  | a :: r, b :: s, h => by
    rw [List.zipWith_cons_cons, List.sum_cons, sum_zip f r s (by simpa using h), List.length_cons, sm_succ']
    rfl
theorem list_fn (r : List Int) : r = (List.range r.length).map (fn r) := by
  apply List.ext_getElem?
  intro i
  by_cases h : i < r.length
  · rw [fn_at h]; simp [h]
  · rw [List.getElem?_eq_none (by omega), List.getElem?_eq_none (by simp; omega)]
end Sx
/-! The row that goes out, as it is found. -/
set_option linter.unusedVariables false
namespace Sx
open Classical in
/-- the best of the first i rows -/
noncomputable def pk (n : Nat) (s : St) (lf : Nat → Int) : Nat → Option Nat
  | 0 => none
  | i + 1 => if 0 < lf i ∧ (pk n s lf i = none ∨ ∃ b, pk n s lf i = some b ∧ rl (n + 1) (s.row i) (lf i) (s.row b) (lf b)) then some i else pk n s lf i
theorem pk_none {n : Nat} {s : St} {lf : Nat → Int} : ∀ {i : Nat}, pk n s lf i = none → ∀ k, k < i → ¬ 0 < lf k
  | 0, _, k, hk => by omega
  | i + 1, h, k, hk => by
    simp only [pk] at h
    split at h
    · cases h
    · next q =>
      by_cases e : k = i
      · subst e
        exact fun p => q ⟨p, .inl h⟩
      · exact pk_none h k (by omega)
theorem pk_some {n : Nat} {s : St} {lf : Nat → Int} : ∀ {i b : Nat}, pk n s lf i = some b → b < i ∧ 0 < lf b ∧ ∀ k, k < i → 0 < lf k → ¬ rl (n + 1) (s.row k) (lf k) (s.row b) (lf b)
  | 0, b, h => by cases h
  | i + 1, b, h => by
    simp only [pk] at h
    split at h
    · next q =>
      have e : i = b := by simpa using h
      subst e
      refine ⟨by omega, q.1, fun k hk p r => ?_⟩
      by_cases e : k = i
      · subst e; exact rl_irrefl r
      · rcases q.2 with z | ⟨b, hb, rb⟩
        · exact pk_none z k (by omega) p
        · obtain ⟨h1, h2, h3⟩ := pk_some hb
          exact h3 k (by omega) p (rl_trans p q.1 h2 r rb)
    · next q =>
      obtain ⟨h1, h2, h3⟩ := pk_some h
      refine ⟨by omega, h2, fun k hk p r => ?_⟩
      by_cases e : k = i
      · subst e
        exact q ⟨p, .inr ⟨b, h, r⟩⟩
      · exact h3 k (by omega) p r
end Sx
/-! The search as a whole: what it ends at; how great its numbers are; never both. -/
set_option linter.unusedVariables false
namespace Sx
def wth (n : Nat) (s : St) (C : Nat → Vec) (j : Nat) : Int := dot n (s.price n) (C j)
def IsEnt (n m : Nat) (s : St) (C : Nat → Vec) (j : Nat) : Prop := j < m ∧ 0 < wth n s C j ∧ (∀ i, i < m → wth n s C i ≤ wth n s C j) ∧ ∀ i, i < j → wth n s C i < wth n s C j
open Classical in
noncomputable def ent (n m : Nat) (s : St) (C : Nat → Vec) : Option Nat := if h : ∃ j, IsEnt n m s C j then some (Classical.choose h) else none
theorem ent_some {n m : Nat} {s : St} {C : Nat → Vec} {j : Nat} (h : IsEnt n m s C j) : ent n m s C = some j := by
  have ex : ∃ j, IsEnt n m s C j := ⟨j, h⟩
  unfold ent
  rw [dif_pos ex]
  have q := Classical.choose_spec ex
  congr 1
  rcases Nat.lt_trichotomy (Classical.choose ex) j with z | z | z
  · have := h.2.2.2 _ z
    have := q.2.2.1 j h.1
    omega
  · exact z
  · have := q.2.2.2 _ z
    have := h.2.2.1 _ q.1
    omega
theorem ent_none {n m : Nat} {s : St} {C : Nat → Vec} (h : ∀ j, j < m → wth n s C j ≤ 0) : ent n m s C = none := by
  unfold ent
  rw [dif_neg fun ⟨j, q⟩ => by have := h j q.1; have := q.2.1; omega]
noncomputable def gat (n m : Nat) (C : Nat → Vec) : Nat → St → St
  | 0, s => s
  | f + 1, s => if s.lack n ≤ 0 then s else match ent n m s C with
    | none => s
    | some j => match pk n s (s.lift n (C j)) n with
      | none => s
      | some r => gat n m C f (s.next n (C j) r j)
theorem gat_done {n m : Nat} {C : Nat → Vec} {s : St} (h : s.lack n ≤ 0) : ∀ f, gat n m C f s = s
  | 0 => rfl
  | f + 1 => by simp only [gat]; rw [if_pos h]
theorem gat_stuck {n m : Nat} {C : Nat → Vec} {s : St} (h : ent n m s C = none) : ∀ f, gat n m C f s = s
  | 0 => rfl
  | f + 1 => by simp only [gat, h]; split <;> rfl
theorem gat_step {n m : Nat} {C : Nat → Vec} {s : St} {j r f : Nat} (h : ¬ s.lack n ≤ 0) (e : ent n m s C = some j) (p : pk n s (s.lift n (C j)) n = some r) : gat n m C (f + 1) s = gat n m C f (s.next n (C j) r j) := by
  simp only [gat]; rw [if_neg h, e]; simp only [p]
section
variable {n m : Nat} {F : (Nat → Vec) → Int} {goal : Vec} {C B0 : Nat → Vec}
theorem Good.pk_ok {s : St} (G : Good n m F goal C B0 s) {j : Nat} (w : 0 < wth n s C j) : ∃ r, pk n s (s.lift n (C j)) n = some r ∧ r < n ∧ 0 < s.lift n (C j) r ∧ ∀ k, k < n → 0 < s.lift n (C j) k → ¬ rl (n + 1) (s.row k) (s.lift n (C j) k) (s.row r) (s.lift n (C j) r) := by
  obtain ⟨k, hk, p⟩ := Good.some_row (n := n) (s := s) (a := C j) w
  cases h : pk n s (s.lift n (C j)) n with
  | none => exact absurd p (pk_none h k hk)
  | some r =>
    obtain ⟨h1, h2, h3⟩ := pk_some h
    exact ⟨r, rfl, h1, h2, h3⟩
/-- it ends where nothing is lacking, or nothing may come in -/
theorem Good.gat_end : ∀ (f : Nat) {s : St}, Good n m F goal C B0 s → mu F n m goal C B0 s.M ≤ f → Good n m F goal C B0 (gat n m C f s) ∧ ((gat n m C f s).lack n ≤ 0 ∨ ∀ j, j < m → wth n (gat n m C f s) C j ≤ 0) := by
  intro f
  induction f with
  | zero =>
    intro s G hm
    refine ⟨G, ?_⟩
    show s.lack n ≤ 0 ∨ ∀ j, j < m → wth n s C j ≤ 0
    refine Classical.byContradiction fun z => ?_
    have z1 : ¬ ∀ j, j < m → wth n s C j ≤ 0 := fun q => z (.inr q)
    have : ∃ j, j < m ∧ 0 < wth n s C j := Classical.byContradiction fun q => z1 fun j hj => Classical.byContradiction fun w => q ⟨j, hj, by omega⟩
    obtain ⟨j, hj, w⟩ := this
    obtain ⟨r, _, hr, lead, least⟩ := G.pk_ok w
    have := G.less hr hj lead least w
    omega
  | succ f ih =>
    intro s G hm
    by_cases h : s.lack n ≤ 0
    · rw [gat_done h]; exact ⟨G, .inl h⟩
    · cases e : ent n m s C with
      | none =>
        rw [gat_stuck e]
        refine ⟨G, .inr fun j hj => Classical.byContradiction fun w => ?_⟩
        have ex : ∃ j, IsEnt n m s C j := by
          have key : ∀ t, t ≤ m → (∃ i, i < t ∧ 0 < wth n s C i) → ∃ j, j < t ∧ 0 < wth n s C j ∧ (∀ i, i < t → wth n s C i ≤ wth n s C j) ∧ ∀ i, i < j → wth n s C i < wth n s C j := by
            intro t
            induction t with
            | zero => exact fun _ ⟨i, hi, _⟩ => by omega
            | succ t iht =>
              intro ht ⟨i, hi, pi⟩
              by_cases q : ∃ i, i < t ∧ 0 < wth n s C i
              · obtain ⟨j, h1, h2, h3, h4⟩ := iht (by omega) q
                by_cases b : wth n s C t ≤ wth n s C j
                · refine ⟨j, by omega, h2, fun i hi => ?_, h4⟩
                  by_cases ei : i = t
                  · subst ei; exact b
                  · exact h3 i (by omega)
                · refine ⟨t, by omega, by omega, fun i hi => ?_, fun i hi => by have := h3 i hi; omega⟩
                  by_cases ei : i = t
                  · subst ei; exact Int.le_refl _
                  · have := h3 i (by omega); omega
              · have ei : i = t := Classical.byContradiction fun z => q ⟨i, by omega, pi⟩
                subst ei
                refine ⟨i, by omega, pi, fun k hk => ?_, fun k hk => ?_⟩
                · by_cases ek : k = i
                  · subst ek; exact Int.le_refl _
                  · have : ¬ 0 < wth n s C k := fun z => q ⟨k, by omega, z⟩
                    omega
                · have : ¬ 0 < wth n s C k := fun z => q ⟨k, hk, z⟩
                  omega
          obtain ⟨j', h1, h2, h3, h4⟩ := key m (Nat.le_refl _) ⟨j, hj, by omega⟩
          exact ⟨j', h1, h2, h3, h4⟩
        obtain ⟨j', hj'⟩ := ex
        rw [ent_some hj'] at e; cases e
      | some j =>
        have hj : IsEnt n m s C j := by
          unfold ent at e
          split at e
          · next ex =>
            have := Classical.choose_spec ex
            have ee : Classical.choose ex = j := by simpa using e
            rw [ee] at this; exact this
          · cases e
        obtain ⟨r, hp, hr, lead, least⟩ := G.pk_ok hj.2.1
        rw [gat_step h e hp]
        have l := G.less hr hj.1 lead least hj.2.1
        exact ih (G.next hr hj.1 lead least) (by omega)
end
/-! ## bounds -/
theorem fac_le : ∀ n : Nat, n ≤ 64 → fac n ≤ 64 ^ n
  | 0, _ => by decide
  | n + 1, h => by
    have := fac_le n (by omega)
    simp only [fac, Nat.pow_succ]
    rw [Nat.mul_comm]
    exact Nat.mul_le_mul this h
theorem big_lt {n : Nat} (h : n ≤ 60) : fac n * (2 ^ 64) ^ n < 2 ^ 8000 := by
  have h1 := fac_le n (by omega)
  have e : (64 : Nat) ^ n = 2 ^ (6 * n) := by rw [Nat.pow_mul]
  rw [e] at h1
  have e2 : ((2 : Nat) ^ 64) ^ n = 2 ^ (64 * n) := by rw [← Nat.pow_mul]
  rw [e2]
  refine Nat.lt_of_le_of_lt (Nat.mul_le_mul_right _ h1) ?_
  rw [← Nat.pow_add]
  exact Nat.pow_lt_pow_right (by omega) (by omega)
section
variable {n m : Nat} {goal : Vec} {C : Nat → Vec}
theorem Good.abs {s : St} (G : Good n m (first n goal) goal C (dg fun k => sgn (goal k)) s) (h60 : n ≤ 60) (hC : ∀ j, j < m → ∀ i, i < n → (C j i).natAbs ≤ 2 ^ 64) {k : Nat} (hk : k < n) (x : Vec) (hx : ∀ i, i < n → (x i).natAbs ≤ 2 ^ 64) :
    (dot n (s.N k) x).natAbs < 2 ^ 8000 := by
  rw [G.U.cr hk]
  refine Nat.lt_of_le_of_lt (first_abs (b := 2 ^ 64) fun j hj i hi => ?_) (big_lt h60)
  rw [up_app]
  split
  · exact hx i hi
  · show (bm C _ s.M j i).natAbs ≤ _
    unfold bm
    cases e : s.M j with
    | none =>
      show (if i = j then sgn (goal j) else 0).natAbs ≤ _
      have : (sgn (goal j)).natAbs = 1 := by unfold sgn; split <;> rfl
      split
      · rw [this]; decide
      · exact Nat.zero_le _
    | some t => exact hC t (G.inn j hj t e) i hi
theorem Good.abs_d {s : St} (G : Good n m (first n goal) goal C (dg fun k => sgn (goal k)) s) (h60 : n ≤ 60) (hC : ∀ j, j < m → ∀ i, i < n → (C j i).natAbs ≤ 2 ^ 64) : s.d.natAbs < 2 ^ 8000 := by
  rw [← G.U.val]
  refine Nat.lt_of_le_of_lt (first_abs (b := 2 ^ 64) fun j hj i hi => ?_) (big_lt h60)
  unfold bm
  cases e : s.M j with
  | none =>
    show (if i = j then sgn (goal j) else 0).natAbs ≤ _
    have : (sgn (goal j)).natAbs = 1 := by unfold sgn; split <;> rfl
    split
    · rw [this]; decide
    · exact Nat.zero_le _
  | some t => exact hC t (G.inn j hj t e) i hi
/-- never both -/
theorem never_both {w : Vec} {cnt : Nat → Int} {d : Int} (hd : 0 < d) (nn : ∀ j, j < m → 0 ≤ cnt j) (sum : ∀ i, i < n → sm m (fun j => cnt j * C j i) = d * goal i) (le : ∀ j, j < m → dot n w (C j) ≤ 0) (pos : 0 < dot n w goal) : False := by
  have e : d * dot n w goal = sm m fun j => cnt j * dot n w (C j) := by
    unfold dot
    rw [← sm_mul]
    have e1 : ∀ j, j < m → cnt j * sm n (fun i => w i * C j i) = sm n fun i => w i * (cnt j * C j i) := fun j _ => by
      rw [← sm_mul]; exact sm_congr fun i _ => by grind
    rw [sm_congr e1, sm_comm]
    refine sm_congr fun i hi => ?_
    rw [sm_mul, sum i hi]; grind
  have h1 : sm m (fun j => cnt j * dot n w (C j)) ≤ 0 := by
    have := sm_le (n := m) (f := fun j => cnt j * dot n w (C j)) (g := fun _ => 0) fun j hj => Int.mul_nonpos_of_nonneg_of_nonpos (nn j hj) (le j hj)
    rw [sm_zero (n := m) (f := fun _ => 0) fun _ _ => rfl] at this
    exact this
  have h2 := Int.mul_pos hd pos
  omega
end
end Sx
/-! The search to its end; lowering a cost: weights of members, why no basis comes back, what is told. -/
set_option linter.unusedVariables false
namespace Sx
/-! ## as long as it helps -/
noncomputable def gatT (n m : Nat) (C : Nat → Vec) : Nat → St → St
  | 0, s => s
  | f + 1, s => match ent n m s C with
    | none => s
    | some j => match pk n s (s.lift n (C j)) n with
      | none => s
      | some r => gatT n m C f (s.next n (C j) r j)
theorem gatT_stuck {n m : Nat} {C : Nat → Vec} {s : St} (h : ent n m s C = none) : ∀ f, gatT n m C f s = s
  | 0 => rfl
  | f + 1 => by simp only [gatT, h]
theorem gatT_step {n m : Nat} {C : Nat → Vec} {s : St} {j r f : Nat} (e : ent n m s C = some j) (p : pk n s (s.lift n (C j)) n = some r) : gatT n m C (f + 1) s = gatT n m C f (s.next n (C j) r j) := by
  simp only [gatT]; rw [e]; simp only [p]
theorem ex_ent {n m : Nat} {s : St} {C : Nat → Vec} (h : ∃ j, j < m ∧ 0 < wth n s C j) : ∃ j, IsEnt n m s C j := by
  have key : ∀ t, t ≤ m → (∃ i, i < t ∧ 0 < wth n s C i) → ∃ j, j < t ∧ 0 < wth n s C j ∧ (∀ i, i < t → wth n s C i ≤ wth n s C j) ∧ ∀ i, i < j → wth n s C i < wth n s C j := by
    intro t
    induction t with
    | zero => exact fun _ ⟨i, hi, _⟩ => by omega
    | succ t iht =>
      intro ht ⟨i, hi, pi⟩
      by_cases q : ∃ i, i < t ∧ 0 < wth n s C i
      · obtain ⟨j, h1, h2, h3, h4⟩ := iht (by omega) q
        by_cases b : wth n s C t ≤ wth n s C j
        · refine ⟨j, by omega, h2, fun i hi => ?_, h4⟩
          by_cases ei : i = t
          · subst ei; exact b
          · exact h3 i (by omega)
        · refine ⟨t, by omega, by omega, fun i hi => ?_, fun i hi => by have := h3 i hi; omega⟩
          by_cases ei : i = t
          · subst ei; exact Int.le_refl _
          · have := h3 i (by omega); omega
      · have ei : i = t := Classical.byContradiction fun z => q ⟨i, by omega, pi⟩
        subst ei
        refine ⟨i, by omega, pi, fun k hk => ?_, fun k hk => ?_⟩
        · by_cases ek : k = i
          · subst ek; exact Int.le_refl _
          · have : ¬ 0 < wth n s C k := fun z => q ⟨k, by omega, z⟩
            omega
        · have : ¬ 0 < wth n s C k := fun z => q ⟨k, hk, z⟩
          omega
  exact key m (Nat.le_refl _) h
theorem ent_is {n m : Nat} {s : St} {C : Nat → Vec} {j : Nat} (e : ent n m s C = some j) : IsEnt n m s C j := by
  unfold ent at e
  split at e
  · next ex =>
    have := Classical.choose_spec ex
    have ee : Classical.choose ex = j := by simpa using e
    rw [ee] at this; exact this
  · cases e
section
variable {n m : Nat} {F : (Nat → Vec) → Int} {goal : Vec} {C B0 : Nat → Vec}
theorem Good.gatT_end : ∀ (f : Nat) {s : St}, Good n m F goal C B0 s → mu F n m goal C B0 s.M ≤ f → Good n m F goal C B0 (gatT n m C f s) ∧ ∀ j, j < m → wth n (gatT n m C f s) C j ≤ 0 := by
  intro f
  induction f with
  | zero =>
    intro s G hm
    refine ⟨G, fun j hj => Classical.byContradiction fun w => ?_⟩
    have w : 0 < wth n s C j := by
      have w : ¬ wth n s C j ≤ 0 := w
      omega
    obtain ⟨r, _, hr, lead, least⟩ := G.pk_ok w
    have := G.less hr hj lead least w
    omega
  | succ f ih =>
    intro s G hm
    cases e : ent n m s C with
    | none =>
      rw [gatT_stuck e]
      refine ⟨G, fun j hj => Classical.byContradiction fun w => ?_⟩
      obtain ⟨j', hj'⟩ := ex_ent (n := n) (s := s) (C := C) ⟨j, hj, by omega⟩
      rw [ent_some hj'] at e; cases e
    | some j =>
      have hj := ent_is e
      obtain ⟨r, hp, hr, lead, least⟩ := G.pk_ok hj.2.1
      rw [gatT_step e hp]
      have l := G.less hr hj.1 lead least hj.2.1
      exact ih (G.next hr hj.1 lead least) (by omega)
/-! ## weights of members -/
def wsum (n : Nat) (ω : Option Nat → Int) (s : St) (i : Nat) : Int := sm n fun k => ω (s.M k) * s.row k i
def wlift (n : Nat) (ω : Option Nat → Int) (s : St) (a : Vec) : Int := sm n fun k => ω (s.M k) * s.lift n a k
def gain (n : Nat) (ω : Option Nat → Int) (s : St) (C : Nat → Vec) (j : Nat) : Int := wlift n ω s (C j) - s.d * ω (some j)
theorem wsum_dot (ω : Option Nat → Int) (s : St) (x : Vec) : dot n (fun i => wsum n ω s (i + 1)) x = wlift n ω s x := by
  unfold dot wsum wlift
  rw [sm_congr (n := n) (fun i _ => (sm_mulr n (x i) fun k => ω (s.M k) * s.row k (i + 1)).symm), sm_comm]
  refine sm_congr fun k _ => ?_
  unfold St.lift dot
  rw [← sm_mul]
  refine sm_congr fun i _ => ?_
  show ω (s.M k) * s.N k i * x i = ω (s.M k) * (s.N k i * x i)
  rw [Int.mul_assoc]
theorem Good.wsum_goal {s : St} (G : Good n m F goal C B0 s) (ω : Option Nat → Int) : dot n (fun i => wsum n ω s (i + 1)) goal = wsum n ω s 0 := by
  rw [wsum_dot]
  exact sm_congr fun k hk => by
    show ω (s.M k) * dot n (s.N k) goal = ω (s.M k) * s.L k
    rw [G.lv k hk]
theorem Good.wsum_next {s : St} (G : Good n m F goal C B0 s) (ω : Option Nat → Int) {r j : Nat} (hr : r < n) (lead : 0 < s.lift n (C j) r) {i : Nat} (hi : i < n + 1) :
    wsum n ω (s.next n (C j) r j) i * s.d = wsum n ω s i * (s.next n (C j) r j).d - gain n ω s C j * s.row r i := by
  have e : ∀ k, k < n → ω ((s.next n (C j) r j).M k) * (s.next n (C j) r j).row k i * s.d = (ω (s.M k) * s.row k i * s.lift n (C j) r - ω (s.M k) * s.lift n (C j) k * s.row r i) + (if k = r then ω (some j) * s.row r i * s.d else 0) := fun k hk => by
    show ω (put s.M r j k) * (s.next n (C j) r j).row k i * s.d = _
    by_cases z : k = r
    · subst z
      have e1 : put s.M k j k = some j := by simp [put]
      have e2 : (s.next n (C j) k j).row k i = s.row k i := by
        cases i with
        | zero => simp [St.row, St.next]
        | succ i => simp [St.row, St.next, nextN]
      rw [e1, e2, if_pos rfl]; grind
    · have e1 : put s.M r j k = s.M k := by simp [put, z]
      rw [e1, if_neg z]
      have := G.next_row hr hk z lead (i := i) hi
      grind
  have last : (sm n fun k => if k = r then ω (some j) * s.row r i * s.d else 0) = ω (some j) * s.row r i * s.d := by
    rw [sm_one (k := r) hr (fun k _ ne => if_neg ne), if_pos rfl]
  unfold wsum gain wlift
  rw [← sm_mulr, sm_congr e, sm_add, sm_sub, sm_mulr, sm_mulr, last]
  show _ = (sm n fun k => ω (s.M k) * s.row k i) * s.lift n (C j) r - _
  grind
def wgW (F : (Nat → Vec) → Int) (n : Nat) (goal : Vec) (C B0 : Nat → Vec) (ω : Option Nat → Int) (M : Mem) : Nat → Int := fun i => sm n fun k => ω (M k) * F (up (bm C B0 M) k (xt goal i))
open Classical in
noncomputable def aheadW (F : (Nat → Vec) → Int) (n : Nat) (goal : Vec) (C B0 : Nat → Vec) (ω : Option Nat → Int) (M M' : Mem) : Bool :=
  decide (0 < F (bm C B0 M') ∧ rl (n + 1) (wgW F n goal C B0 ω M') (F (bm C B0 M')) (wgW F n goal C B0 ω M) (F (bm C B0 M)))
noncomputable def muW (F : (Nat → Vec) → Int) (n m : Nat) (goal : Vec) (C B0 : Nat → Vec) (ω : Option Nat → Int) (M : Mem) : Nat := (allM m n).countP (aheadW F n goal C B0 ω M)
open Classical in
theorem muW_lt {ω : Option Nat → Int} {M M' : Mem} (h : M' ∈ allM m n) (p : 0 < F (bm C B0 M)) (p' : 0 < F (bm C B0 M'))
    (l : rl (n + 1) (wgW F n goal C B0 ω M') (F (bm C B0 M')) (wgW F n goal C B0 ω M) (F (bm C B0 M))) : muW F n m goal C B0 ω M' < muW F n m goal C B0 ω M := by
  refine count_lt (fun x _ hx => ?_) ⟨M', h, by simp [aheadW, p', l], ?_⟩
  · have := of_decide_eq_true hx
    exact decide_eq_true ⟨this.1, rl_trans this.1 p' p this.2 l⟩
  · exact decide_eq_false fun ⟨_, q⟩ => rl_irrefl q
theorem Good.wgW_eq {s : St} (G : Good n m F goal C B0 s) (ω : Option Nat → Int) {i : Nat} (hi : i < n + 1) : wgW F n goal C B0 ω s.M i = wsum n ω s i := sm_congr fun k hk => by rw [G.row_eq hk hi]
theorem Good.lessW {s : St} (G : Good n m F goal C B0 s) (ω : Option Nat → Int) {r j : Nat} (hr : r < n) (hj : j < m) (lead : 0 < s.lift n (C j) r)
    (least : ∀ k, k < n → 0 < s.lift n (C j) k → ¬ rl (n + 1) (s.row k) (s.lift n (C j) k) (s.row r) (s.lift n (C j) r))
    (worth : 0 < gain n ω s C j) : muW F n m goal C B0 ω (s.next n (C j) r j).M < muW F n m goal C B0 ω s.M := by
  have G2 := G.next hr hj lead least
  have hd := G.U.pos
  refine muW_lt (mem_allM G2.out G2.inn) (by rw [G.U.val]; exact hd) (by rw [G2.U.val]; exact G2.U.pos) ?_
  rw [G.U.val, G2.U.val]
  have key : ∀ i, i < n + 1 → wgW F n goal C B0 ω (s.next n (C j) r j).M i * s.d = wgW F n goal C B0 ω s.M i * (s.next n (C j) r j).d - gain n ω s C j * s.row r i := fun i hi => by
    rw [G2.wgW_eq ω hi, G.wgW_eq ω hi]
    exact G.wsum_next ω hr lead hi
  obtain ⟨i, hi, p, z⟩ := G.lx r hr
  refine ⟨i, hi, ?_, fun t ht => ?_⟩
  · rw [key i hi]
    have := Int.mul_pos worth p
    omega
  · rw [key t (by omega), z t ht]; omega
/-! ## stand-ins that are not needed -/
def w0 : Option Nat → Int
  | none => 1
  | some _ => 0
theorem w0_if (M : Option Nat) (x : Int) : w0 M * x = if M = none then x else 0 := by
  cases M with
  | none => simp [w0]
  | some j => simp [w0]
theorem wsum0_lack (s : St) : wsum n w0 s 0 = s.lack n := sm_congr fun k _ => w0_if _ _
theorem wsum0_price (s : St) (i : Nat) : wsum n w0 s (i + 1) = s.price n i := sm_congr fun k _ => w0_if _ _
theorem wlift0 (s : St) (a : Vec) : wlift n w0 s a = dot n (s.price n) a := by
  rw [← wsum_dot]
  exact dot_congr (fun i _ => wsum0_price s i) fun _ _ => rfl
theorem gain0 (s : St) (j : Nat) : gain n w0 s C j = wth n s C j := by
  unfold gain wth
  rw [wlift0]
  show _ - s.d * 0 = _
  omega
/-- nothing lacks, and nothing helps against it -/
structure Calm (n m : Nat) (C : Nat → Vec) (s : St) : Prop where
  lack : s.lack n = 0
  le : ∀ j, j < m → wth n s C j ≤ 0
theorem Good.wth_next {s : St} (G : Good n m F goal C B0 s) {r j : Nat} (hr : r < n) (lead : 0 < s.lift n (C j) r) (z : wth n s C j = 0) (t : Nat) : wth n (s.next n (C j) r j) C t * s.d = wth n s C t * (s.next n (C j) r j).d := by
  unfold wth dot
  rw [← sm_mulr, ← sm_mulr]
  refine sm_congr fun i hi => ?_
  have h := G.wsum_next w0 hr lead (i := i + 1) (by omega)
  rw [gain0, z, wsum0_price, wsum0_price] at h
  grind
theorem Good.calm_next {s : St} (G : Good n m F goal C B0 s) (K : Calm n m C s) {r j : Nat} (hr : r < n) (lead : 0 < s.lift n (C j) r) (z : wth n s C j = 0) : Calm n m C (s.next n (C j) r j) ∧ ∀ t, wth n (s.next n (C j) r j) C t = 0 ↔ wth n s C t = 0 := by
  have hd := G.U.pos
  have hd2 : 0 < (s.next n (C j) r j).d := lead
  have w := G.wth_next hr lead z
  refine ⟨⟨?_, fun t ht => ?_⟩, fun t => ⟨fun e => ?_, fun e => ?_⟩⟩
  · have h := G.wsum_next w0 hr lead (i := 0) (by omega)
    rw [gain0, z, wsum0_lack, wsum0_lack, K.lack] at h
    have : (s.next n (C j) r j).lack n * s.d = 0 := by rw [h]; simp
    rcases Int.mul_eq_zero.mp this with q | q
    · exact q
    · omega
  · refine Classical.byContradiction fun q => ?_
    have h1 := Int.mul_pos (show 0 < wth n (s.next n (C j) r j) C t by omega) hd
    have h2 := Int.mul_nonpos_of_nonpos_of_nonneg (K.le t ht) (Int.le_of_lt hd2)
    rw [w t] at h1
    omega
  · have h := w t
    rw [e, Int.zero_mul] at h
    rcases Int.mul_eq_zero.mp h.symm with q | q
    · exact q
    · omega
  · have h := w t
    rw [e, Int.zero_mul] at h
    rcases Int.mul_eq_zero.mp h with q | q
    · exact q
    · omega
/-- a member gains nothing -/
theorem Good.gain_member {s : St} (G : Good n m F goal C B0 s) (ω : Option Nat → Int) {k j : Nat} (hk : k < n) (h : s.M k = some j) : gain n ω s C j = 0 := by
  have e : bm C B0 s.M k = C j := by simp [bm, h]
  have l1 : s.lift n (C j) k = s.d := by rw [← e]; exact G.U.same hk
  have l2 : ∀ t, t < n → t ≠ k → s.lift n (C j) t = 0 := fun t ht ne => by
    rw [← e]; exact G.U.other G.A ht hk ne
  unfold gain wlift
  rw [sm_one (k := k) hk fun t ht ne => by rw [l2 t ht ne, Int.mul_zero], l1, h]
  grind
/-! ## lowering a cost -/
def cw (c : Nat → Int) : Option Nat → Int
  | none => 0
  | some j => c j
def IsIn (n : Nat) (C : Nat → Vec) (c : Nat → Int) (fr : List Nat) (s : St) (j : Nat) : Prop := j ∈ fr ∧ 0 < gain n (cw c) s C j ∧ (∀ i ∈ fr, gain n (cw c) s C i ≤ gain n (cw c) s C j) ∧ ∀ i ∈ fr, i < j → gain n (cw c) s C i < gain n (cw c) s C j
open Classical in
noncomputable def enL (n : Nat) (C : Nat → Vec) (c : Nat → Int) (fr : List Nat) (s : St) : Option Nat := if h : ∃ j, IsIn n C c fr s j then some (Classical.choose h) else none
theorem enL_some {c : Nat → Int} {fr : List Nat} {s : St} {j : Nat} (h : IsIn n C c fr s j) : enL n C c fr s = some j := by
  have ex : ∃ j, IsIn n C c fr s j := ⟨j, h⟩
  unfold enL
  rw [dif_pos ex]
  have q := Classical.choose_spec ex
  congr 1
  rcases Nat.lt_trichotomy (Classical.choose ex) j with z | z | z
  · have h1 := h.2.2.2 _ q.1 z
    have h2 := q.2.2.1 j h.1
    omega
  · exact z
  · have h1 := q.2.2.2 _ h.1 z
    have h2 := h.2.2.1 _ q.1
    omega
theorem enL_is {c : Nat → Int} {fr : List Nat} {s : St} {j : Nat} (e : enL n C c fr s = some j) : IsIn n C c fr s j := by
  unfold enL at e
  split at e
  · next ex =>
    have := Classical.choose_spec ex
    have ee : Classical.choose ex = j := by simpa using e
    rw [ee] at this; exact this
  · cases e
theorem enL_none {c : Nat → Int} {fr : List Nat} {s : St} (h : ∀ j ∈ fr, gain n (cw c) s C j ≤ 0) : enL n C c fr s = none := by
  unfold enL
  rw [dif_neg fun ⟨j, q⟩ => by have := h j q.1; have := q.2.1; omega]
theorem ex_in {c : Nat → Int} {s : St} : ∀ {fr : List Nat}, (∃ j ∈ fr, 0 < gain n (cw c) s C j) → ∃ j, IsIn n C c fr s j := by
  intro fr h
  have key : ∀ l : List Nat, (∃ j ∈ l, 0 < gain n (cw c) s C j) → ∃ j, j ∈ l ∧ 0 < gain n (cw c) s C j ∧ (∀ i ∈ l, gain n (cw c) s C i ≤ gain n (cw c) s C j) ∧ ∀ i ∈ l, i < j → gain n (cw c) s C i < gain n (cw c) s C j := by
    intro l
    induction l with
    | nil => exact fun ⟨j, hj, _⟩ => by simp at hj
    | cons a l ih =>
      intro ⟨j0, hj0, p0⟩
      by_cases q : ∃ j ∈ l, 0 < gain n (cw c) s C j
      · obtain ⟨j, h1, h2, h3, h4⟩ := ih q
        rcases Int.lt_trichotomy (gain n (cw c) s C a) (gain n (cw c) s C j) with z | z | z
        · exact ⟨j, by simp [h1], h2, fun i hi => by
            rcases List.mem_cons.mp hi with rfl | hi
            · omega
            · exact h3 i hi, fun i hi l => by
            rcases List.mem_cons.mp hi with rfl | hi
            · exact z
            · exact h4 i hi l⟩
        · by_cases w : a < j
          · refine ⟨a, by simp, by omega, fun i hi => ?_, fun i hi l => ?_⟩
            · rcases List.mem_cons.mp hi with rfl | hi
              · omega
              · have := h3 i hi; omega
            · rcases List.mem_cons.mp hi with rfl | hi
              · omega
              · have := h4 i hi (by omega); omega
          · refine ⟨j, by simp [h1], h2, fun i hi => ?_, fun i hi l => ?_⟩
            · rcases List.mem_cons.mp hi with rfl | hi
              · omega
              · exact h3 i hi
            · rcases List.mem_cons.mp hi with rfl | hi
              · omega
              · exact h4 i hi l
        · refine ⟨a, by simp, by omega, fun i hi => ?_, fun i hi l => ?_⟩
          · rcases List.mem_cons.mp hi with rfl | hi
            · omega
            · have := h3 i hi; omega
          · rcases List.mem_cons.mp hi with rfl | hi
            · omega
            · have := h3 i hi; omega
      · have e : j0 = a := by
          rcases List.mem_cons.mp hj0 with e | e
          · exact e
          · exact absurd ⟨j0, e, p0⟩ q
        subst e
        have le : ∀ i ∈ l, gain n (cw c) s C i ≤ 0 := fun i hi => Classical.byContradiction fun z => q ⟨i, hi, by omega⟩
        refine ⟨j0, by simp, p0, fun i hi => ?_, fun i hi l => ?_⟩
        · rcases List.mem_cons.mp hi with rfl | hi
          · omega
          · have := le i hi; omega
        · rcases List.mem_cons.mp hi with rfl | hi
          · omega
          · have := le i hi; omega
  exact key fr h
/-- the last state, and what comes in without end -/
noncomputable def lsn (n : Nat) (C : Nat → Vec) (c : Nat → Int) (fr : List Nat) : Nat → St → St × Option Nat
  | 0, s => (s, none)
  | f + 1, s => match enL n C c fr s with
    | none => (s, none)
    | some j => match pk n s (s.lift n (C j)) n with
      | none => (s, some j)
      | some r => lsn n C c fr f (s.next n (C j) r j)
theorem lsn_none {c : Nat → Int} {fr : List Nat} {s : St} (h : enL n C c fr s = none) : ∀ f, lsn n C c fr f s = (s, none)
  | 0 => rfl
  | f + 1 => by simp only [lsn, h]
theorem lsn_end {c : Nat → Int} {fr : List Nat} {s : St} {j f : Nat} (h : enL n C c fr s = some j) (p : pk n s (s.lift n (C j)) n = none) : lsn n C c fr (f + 1) s = (s, some j) := by
  simp only [lsn, h, p]
theorem lsn_step {c : Nat → Int} {fr : List Nat} {s : St} {j r f : Nat} (h : enL n C c fr s = some j) (p : pk n s (s.lift n (C j)) n = some r) : lsn n C c fr (f + 1) s = lsn n C c fr f (s.next n (C j) r j) := by
  simp only [lsn, h, p]
/-- what may come in -/
def Free (n m : Nat) (C : Nat → Vec) (fr : List Nat) (s : St) : Prop := ∀ j, j ∈ fr ↔ j < m ∧ wth n s C j = 0
structure Low (n m : Nat) (F : (Nat → Vec) → Int) (goal : Vec) (C B0 : Nat → Vec) (fr : List Nat) (s : St) : Prop where
  G : Good n m F goal C B0 s
  K : Calm n m C s
  fr : Free n m C fr s
theorem Low.next {fr : List Nat} {s : St} (W : Low n m F goal C B0 fr s) {r j : Nat} (hr : r < n) (hj : j ∈ fr) (lead : 0 < s.lift n (C j) r)
    (least : ∀ k, k < n → 0 < s.lift n (C j) k → ¬ rl (n + 1) (s.row k) (s.lift n (C j) k) (s.row r) (s.lift n (C j) r)) : Low n m F goal C B0 fr (s.next n (C j) r j) := by
  obtain ⟨hm, z⟩ := (W.fr j).mp hj
  obtain ⟨K, e⟩ := W.G.calm_next W.K hr lead z
  exact ⟨W.G.next hr hm lead least, K, fun t => by rw [W.fr t, e t]⟩
theorem Low.lsn {c : Nat → Int} {fr : List Nat} : ∀ (f : Nat) {s : St}, Low n m F goal C B0 fr s → muW F n m goal C B0 (cw c) s.M < f → Low n m F goal C B0 fr (lsn n C c fr f s).1 ∧
    ((lsn n C c fr f s).2 = none ∧ (∀ j ∈ fr, gain n (cw c) (lsn n C c fr f s).1 C j ≤ 0) ∨ ∃ j, (lsn n C c fr f s).2 = some j ∧ j ∈ fr ∧ 0 < gain n (cw c) (lsn n C c fr f s).1 C j ∧ ∀ k, k < n → (lsn n C c fr f s).1.lift n (C j) k ≤ 0) := by
  intro f
  induction f with
  | zero => intro s W h; omega
  | succ f ih =>
    intro s W hm
    cases e : enL n C c fr s with
    | none =>
      rw [lsn_none e]
      refine ⟨W, .inl ⟨rfl, fun j hj => Classical.byContradiction fun z => ?_⟩⟩
      obtain ⟨j', q⟩ := ex_in (n := n) (C := C) (c := c) (s := s) ⟨j, hj, by
        have z : ¬ gain n (cw c) s C j ≤ 0 := z
        omega⟩
      rw [enL_some q] at e; cases e
    | some j =>
      have hj := enL_is e
      cases p : pk n s (s.lift n (C j)) n with
      | none =>
        rw [lsn_end e p]
        exact ⟨W, .inr ⟨j, rfl, hj.1, hj.2.1, fun k hk => by have := pk_none p k hk; show s.lift n (C j) k ≤ 0; omega⟩⟩
      | some r =>
        obtain ⟨hr, lead, least⟩ := pk_some p
        rw [lsn_step e p]
        have l := W.G.lessW (cw c) hr ((W.fr j).mp hj.1).1 lead least hj.2.1
        exact ih (W.next hr hj.1 lead least) (by omega)
/-! ## without end -/
def cntE (n : Nat) (s : St) (C : Nat → Vec) (j i : Nat) : Int := if i = j then s.d else sm n fun k => if s.M k = some i then - s.lift n (C j) k else 0
theorem Low.zero {fr : List Nat} {s : St} (W : Low n m F goal C B0 fr s) {j : Nat} (hj : j ∈ fr) (le : ∀ k, k < n → s.lift n (C j) k ≤ 0) {k : Nat} (hk : k < n) (h : s.M k = none) : s.lift n (C j) k = 0 := by
  have z := ((W.fr j).mp hj).2
  unfold wth at z
  rw [St.price_dot] at z
  have e : (sm n fun k => if s.M k = none then - s.lift n (C j) k else 0) = - sm n fun k => if s.M k = none then s.lift n (C j) k else 0 := by
    rw [← sm_neg]
    exact sm_congr fun k _ => by split <;> simp
  have q := sm_eq_zero (n := n) (f := fun k => if s.M k = none then - s.lift n (C j) k else 0) (fun k hk => by
    have := le k hk
    split <;> omega) (by rw [e, z]; omega) k hk
  simp only [h, if_true] at q
  omega
theorem Low.cntE_nonneg {fr : List Nat} {s : St} (W : Low n m F goal C B0 fr s) {j : Nat} (le : ∀ k, k < n → s.lift n (C j) k ≤ 0) (i : Nat) : 0 ≤ cntE n s C j i := by
  unfold cntE
  split
  · exact Int.le_of_lt W.G.U.pos
  · exact sm_nonneg fun k hk => by
      have := le k hk
      split <;> omega
/-- sums over the counts -/
theorem Low.cntE_sum {fr : List Nat} {s : St} (W : Low n m F goal C B0 fr s) {j : Nat} (hj : j ∈ fr) (out : ∀ k, k < n → s.M k ≠ some j) (x : Nat → Int) :
    sm m (fun i => cntE n s C j i * x i) = s.d * x j - sm n fun k => cw x (s.M k) * s.lift n (C j) k := by
  have hm := ((W.fr j).mp hj).1
  have e : ∀ i, i < m → cntE n s C j i * x i = (if i = j then s.d * x j else 0) - sm n fun k => if s.M k = some i then x i * s.lift n (C j) k else 0 := fun i _ => by
    unfold cntE
    by_cases z : i = j
    · subst z
      rw [if_pos rfl, if_pos rfl, sm_zero (n := n) fun k hk => by rw [if_neg (out k hk)]]
      omega
    · rw [if_neg z, if_neg z, ← sm_mulr]
      have : (sm n fun k => (if s.M k = some i then - s.lift n (C j) k else 0) * x i) = - sm n fun k => if s.M k = some i then x i * s.lift n (C j) k else 0 := by
        rw [← sm_neg]
        exact sm_congr fun k _ => by split <;> grind
      rw [this]; omega
  rw [sm_congr e, sm_sub, sm_one (k := j) hm fun i _ ne => by rw [if_neg ne], if_pos rfl, sm_comm]
  congr 1
  refine sm_congr fun k hk => ?_
  cases q : s.M k with
  | none => rw [sm_zero fun i _ => by simp]; simp [cw]
  | some t =>
    rw [sm_one (k := t) (W.G.inn k hk t q) fun i _ ne => by
      have : ¬ some t = some i := fun h => ne (by injection h with h; exact h.symm)
      rw [if_neg this]]
    simp [cw]
theorem Low.endless {fr : List Nat} {s : St} (W : Low n m F goal C B0 fr s) {c : Nat → Int} {j : Nat} (hj : j ∈ fr) (pos : 0 < gain n (cw c) s C j) (le : ∀ k, k < n → s.lift n (C j) k ≤ 0) :
    (∀ i, i < n → sm m (fun t => cntE n s C j t * C t i) = 0) ∧ sm m (fun t => cntE n s C j t * c t) < 0 := by
  have out : ∀ k, k < n → s.M k ≠ some j := fun k hk h => by
    have := W.G.gain_member (cw c) hk h
    omega
  refine ⟨fun i hi => ?_, ?_⟩
  · rw [W.cntE_sum hj out fun t => C t i, ← W.G.U.sp (C j) hi, ← sm_sub]
    refine sm_zero fun k hk => ?_
    cases q : s.M k with
    | none =>
      have := W.zero hj le hk q
      have e : dot n (s.N k) (C j) = 0 := this
      rw [e]; simp [cw]
    | some t =>
      have e : bm C B0 s.M k i = C t i := by simp [bm, q]
      rw [e]
      show dot n (s.N k) (C j) * C t i - C t i * dot n (s.N k) (C j) = 0
      grind
  · rw [W.cntE_sum hj out c]
    unfold gain wlift at pos
    show s.d * c j - (sm n fun k => cw c (s.M k) * s.lift n (C j) k) < 0
    have : (sm n fun k => cw c (s.M k) * s.lift n (C j) k) - s.d * c j > 0 := pos
    omega
/-! ## the least -/
theorem Good.cost_counts {s : St} (G : Good n m F goal C B0 s) (c : Nat → Int) : sm m (fun j => s.count n j * c j) = wsum n (cw c) s 0 := by
  have e : ∀ j, j < m → s.count n j * c j = sm n fun k => if s.M k = some j then s.L k * c j else 0 := fun j _ => by
    unfold St.count
    rw [← sm_mulr]
    refine sm_congr fun k _ => ?_
    split <;> simp
  rw [sm_congr e, sm_comm]
  refine sm_congr fun k hk => ?_
  cases q : s.M k with
  | none => rw [sm_zero fun j _ => by simp]; simp [cw]
  | some t =>
    rw [sm_one (k := t) (G.inn k hk t q) fun j _ ne => by
      have : ¬ some t = some j := fun h => ne (by injection h with h; exact h.symm)
      rw [if_neg this]]
    show _ = c t * s.L k
    simp; grind
/-- prices that hold for all: as much of the tolls as it takes -/
theorem Low.prices {fr : List Nat} {s : St} (W : Low n m F goal C B0 fr s) {c : Nat → Int} (le : ∀ j ∈ fr, gain n (cw c) s C j ≤ 0) {most : Int} (hm : ∀ j, j < m → wth n s C j < 0 → gain n (cw c) s C j ≤ most * - wth n s C j) {j : Nat} (hj : j < m) :
    dot n (fun i => wsum n (cw c) s (i + 1) + most * s.price n i) (C j) ≤ s.d * c j := by
  have e : dot n (fun i => wsum n (cw c) s (i + 1) + most * s.price n i) (C j) = wlift n (cw c) s (C j) + most * wth n s C j := by
    rw [← wsum_dot]
    unfold wth dot
    rw [← sm_mul, ← sm_add]
    exact sm_congr fun i _ => by grind
  rw [e]
  have g : gain n (cw c) s C j = wlift n (cw c) s (C j) - s.d * c j := rfl
  by_cases z : wth n s C j = 0
  · have := le j ((W.fr j).mpr ⟨hj, z⟩)
    rw [z, Int.mul_zero]; omega
  · have l := W.K.le j hj
    have := hm j hj (by omega)
    rw [Int.mul_neg] at this
    omega
theorem Low.prices_goal {fr : List Nat} {s : St} (W : Low n m F goal C B0 fr s) (c : Nat → Int) (most : Int) : dot n (fun i => wsum n (cw c) s (i + 1) + most * s.price n i) goal = sm m (fun j => s.count n j * c j) := by
  rw [W.G.cost_counts c, ← W.G.wsum_goal (cw c)]
  have e : dot n (fun i => wsum n (cw c) s (i + 1) + most * s.price n i) goal = dot n (fun i => wsum n (cw c) s (i + 1)) goal + most * dot n (s.price n) goal := by
    unfold dot
    rw [← sm_mul, ← sm_add]
    exact sm_congr fun i _ => by grind
  rw [e, W.G.price_goal, W.K.lack]; omega
end
end Sx
set_option Elab.async false
set_option linter.all false
set_option maxRecDepth 100000
set_option maxHeartbeats 4000000
set_option synthInstance.maxHeartbeats 4000000
set_option synthInstance.maxSize 100000
namespace K04
open PySem PySem.Spec PyProof.Rows L2 RZ Lf
def isInt : D → Bool
  | .int _ => true
  | _ => false
def kInt : D → Bool
  | .int _ => true
  | .bl _ => true
  | _ => false
def kBool : D → Bool
  | .bl _ => true
  | _ => false
def kLst : D → Bool
  | .lst _ => true
  | _ => false
def kTup : D → Bool
  | .tup _ => true
  | _ => false
theorem kit_int (x : D) : kitB x.ty "int" = some (kInt x) := by cases x <;> (simp only [D.ty, kInt]; decide +kernel)
theorem kit_bool (x : D) : kitB x.ty "bool" = some (kBool x) := by cases x <;> (simp only [D.ty, kBool]; decide +kernel)
theorem kit_lst (x : D) : kitB x.ty "list" = some (kLst x) := by cases x <;> (simp only [D.ty, kLst]; decide +kernel)
theorem kit_tup (x : D) : kitB x.ty "tuple" = some (kTup x) := by cases x <;> (simp only [D.ty, kTup]; decide +kernel)
theorem k_int (x : D) : (kInt x && !kBool x) = isInt x := by cases x <;> rfl
/-- spec -/
def w_is_number : PW := fun ds C => ∃ x, ds = [x] ∧ C (.bl (isInt x))
def r_is_number : DS := (dRet (dAndV (dIsi "int" (dVar 0)) (dNotV (dIsi "bool" (dVar 0)))))
theorem body_is_number : ∀ (as : List D) (C : D → Prop), as.length = 1 → w_is_number as C → r_is_number (env0 (["thing"].length - 1) as) { nx := fun _ => C .non, rt := fun d _ => C d } := by
  rintro as C _ ⟨x, rfl, h⟩
  refine st_ret1 (ev_andV (ev_isi (ev_var (by rfl)) (kit_int x)) fun _ => ev_notV (ev_isi (ev_var (by rfl)) (kit_bool x))) ?_
  rw [k_int]; exact h
def isSeq : D → Bool
  | .lst _ => true
  | .tup _ => true
  | _ => false
theorem k_seq (x : D) : (kLst x || kTup x) = isSeq x := by cases x <;> rfl
def w_is_list : PW := fun ds C => ∃ x, ds = [x] ∧ C (.bl (isSeq x))
def r_is_list : DS := (dRet (dIsi2 "list" "tuple" (dVar 0)))
theorem body_is_list : ∀ (as : List D) (C : D → Prop), as.length = 1 → w_is_list as C → r_is_list (env0 (["thing"].length - 1) as) { nx := fun _ => C .non, rt := fun d _ => C d } := by
  rintro as C _ ⟨x, rfl, h⟩
  refine st_ret1 (ev_isi2 (ev_var (by rfl)) (kit_lst x) (kit_tup x)) ?_
  rw [k_seq]; exact h
def w_is_row : PW := fun ds C => ∃ r : List Int, ds = [rowD r] ∧ 1 ≤ r.length ∧ r.length ≤ 60 ∧ C (.bl true)
def r_is_row : DS := (dRet (dAndV (dIsi "tuple" (dVar 0)) (dAndV (dChain (rIB fun i j => decide (i ≤ j)) (rIB fun i j => decide (i ≤ j)) (dC (.int 1)) (dCB dLen (dCons (dVar 0) dNil)) (dC (.int 60))) (dCB dAll (dCons (dOfN (dLcN (diSeq (dVar 0)) (dgN 1) [1] dYes (dCallP 1 w_is_number (dCons (dVar 1) dNil)) [1])) dNil)))))
theorem mem_row {r : List Int} {x : D} (h : x ∈ r.map D.int) : isInt x = true := by
  obtain ⟨i, _, rfl⟩ := List.mem_map.mp h
  rfl
theorem body_is_row : ∀ (as : List D) (C : D → Prop), as.length = 1 → w_is_row as C → r_is_row (env0 (["thing", "number"].length - 1) as) { nx := fun _ => C .non, rt := fun d _ => C d } := by
  rintro as C _ ⟨r, rfl, h1, h2, h⟩
  have l := rowD_len r
  refine st_ret1 (d := .bl true) ?_ (by exact h)
  refine ev_andV (p := true) (q := true) (ev_isi (ev_var (by rfl)) (kit_tup _)) fun _ => ?_
  refine ev_andV (p := true) (q := true) ?_ fun _ => ?_
  · exact ev_chain (p := true) (q := true) ev_c (ev_cb (ea_cons (ev_var (by rfl)) ea_nil) fun C k => cv_len rfl k) (fun C k => rv_ib (decide_eq_true (by omega)) k) (fun _ => ev_c) fun _ C k => rv_ib (decide_eq_true (by omega)) k
  · refine ev_cb (ea_cons (ev_map (fun _ => .bl true) (ei_seq (ev_var (by rfl)) rfl) (by omega) (by simp) (by rfl) fun x hx => ⟨_, tg_n (by rfl), ?_⟩) ea_nil) fun C k => cv_allT k
    exact ev_call (ea_cons (ev_var (by rfl)) ea_nil) rfl fun C k => ⟨x, rfl, by rw [mem_row hx]; exact k⟩
def w_is_row_of : PW := fun ds C => ∃ r : List Int, ds = [rowD r, .int r.length] ∧ r.length ≤ 1000 ∧ C (.bl true)
def r_is_row_of : DS := (dRet (dAndV (dIsi "tuple" (dVar 0)) (dAndV (dOp dEqD (dCB dLen (dCons (dVar 0) dNil)) (dVar 1)) (dCB dAll (dCons (dOfN (dLcN (diSeq (dVar 0)) (dgN 2) [2] dYes (dCallP 1 w_is_number (dCons (dVar 2) dNil)) [2])) dNil)))))
theorem body_is_row_of : ∀ (as : List D) (C : D → Prop), as.length = 2 → w_is_row_of as C → r_is_row_of (env0 (["thing", "many", "number"].length - 2) as) { nx := fun _ => C .non, rt := fun d _ => C d } := by
  rintro as C _ ⟨r, rfl, h1, h⟩
  have l := rowD_len r
  refine st_ret1 (d := .bl true) ?_ (by exact h)
  refine ev_andV (p := true) (q := true) (ev_isi (ev_var (by rfl)) (kit_tup _)) fun _ => ?_
  refine ev_andV (p := true) (q := true) ?_ fun _ => ?_
  · exact ev_op (ev_cb (ea_cons (ev_var (by rfl)) ea_nil) fun C k => cv_len rfl k) (ev_var (by rfl)) fun C k => rv_eq flat_int.shp flat_int.shp (by rw [dEq_int]; exact decide_eq_true (by omega)) k
  · refine ev_cb (ea_cons (ev_map (fun _ => .bl true) (ei_seq (ev_var (by rfl)) rfl) (by omega) (by simp) (by rfl) fun x hx => ⟨_, tg_n (by rfl), ?_⟩) ea_nil) fun C k => cv_allT k
    exact ev_call (ea_cons (ev_var (by rfl)) ea_nil) rfl fun C k => ⟨x, rfl, by rw [mem_row hx]; exact k⟩
/-- columns: a list (false) or a tuple (true) of rows of one length -/
def colsD (p : Bool) (cols : List (List Int)) : D := if p then .tup (cols.map rowD) else .lst (cols.map rowD)
theorem cols_items {p : Bool} {cols : List (List Int)} : (colsD p cols).items? = some (cols.map rowD) := by cases p <;> rfl
theorem cols_seq {p : Bool} {cols : List (List Int)} : (colsD p cols).seq? = some (p, cols.map rowD) := by cases p <;> rfl
theorem cols_isSeq {p : Bool} {cols : List (List Int)} : isSeq (colsD p cols) = true := by cases p <;> rfl
structure Cols (n : Nat) (cols : List (List Int)) : Prop where
  len : ∀ r ∈ cols, r.length = n
  few : cols.length ≤ 400
  n1 : 1 ≤ n
  n60 : n ≤ 60
def w_are_rows_of : PW := fun ds C => ∃ p cols n, ds = [colsD p cols, .int (n : Nat)] ∧ Cols n cols ∧ C (.bl true)
def r_are_rows_of : DS := (dRet (dAndV (dCallP 1 w_is_list (dCons (dVar 0) dNil)) (dCB dAll (dCons (dOfN (dLcN (diSeq (dVar 0)) (dgN 2) [2] dYes (dCallP 2 w_is_row_of (dCons (dVar 2) (dCons (dVar 1) dNil))) [2])) dNil))))
theorem body_are_rows_of : ∀ (as : List D) (C : D → Prop), as.length = 2 → w_are_rows_of as C → r_are_rows_of (env0 (["thing", "many", "row"].length - 2) as) { nx := fun _ => C .non, rt := fun d _ => C d } := by
  rintro as C _ ⟨p, cols, n, rfl, ok, h⟩
  have l : (cols.map rowD).length = cols.length := List.length_map ..
  have few := ok.few
  refine st_ret1 (d := .bl true) ?_ (by exact h)
  refine ev_andV (p := true) (q := true) (ev_call (ea_cons (ev_var (by rfl)) ea_nil) rfl fun C k => ⟨_, rfl, by rw [cols_isSeq]; exact k⟩) fun _ => ?_
  refine ev_cb (ea_cons (ev_map (fun _ => .bl true) (ei_seq (ev_var (by rfl)) cols_items) (by omega) (by simp) (by rfl) fun x hx => ⟨_, tg_n (by rfl), ?_⟩) ea_nil) fun C k => cv_allT k
  obtain ⟨r, hr, rfl⟩ := List.mem_map.mp hx
  have hn := ok.len r hr
  have n60 := ok.n60
  exact ev_call (ea_cons (ev_var (by rfl)) (ea_cons (ev_var (by rfl)) ea_nil)) rfl fun C k => ⟨r, by rw [hn], by omega, k⟩
def w_are_rows : PW := fun ds C => ∃ p cols n, ds = [colsD p cols] ∧ Cols n cols ∧ C (.bl true)
def r_are_rows : DS := (dSeq (dIfS (dNot (dTest (dCallP 1 w_is_list (dCons (dVar 0) dNil)))) (dRet (dC (.bl false))) dNext) (dRet (dOrV (dOp dEqD (dCB dLen (dCons (dVar 0) dNil)) (dC (.int 0))) (dAndV (dCallP 1 w_is_row (dCons (dOp dIx (dVar 0) (dC (.int 0))) dNil)) (dCallP 2 w_are_rows_of (dCons (dVar 0) (dCons (dCB dLen (dCons (dOp dIx (dVar 0) (dC (.int 0))) dNil)) dNil)))))))
theorem ix_cols {p : Bool} {cols : List (List Int)} {i : Nat} {r : List Int} (h : cols[i]? = some r) {C : D → Prop} (k : C (rowD r)) : dIx (colsD p cols) (.int i) C := by
  have e : (cols.map rowD)[i]? = some (rowD r) := by rw [List.getElem?_map, h]; rfl
  cases p
  · exact rv_ixL (atI_nat e) k
  · exact rv_ixT (atI_nat e) k
theorem body_are_rows : ∀ (as : List D) (C : D → Prop), as.length = 1 → w_are_rows as C → r_are_rows (env0 (["thing"].length - 1) as) { nx := fun _ => C .non, rt := fun d _ => C d } := by
  rintro as C _ ⟨p, cols, n, rfl, ok, h⟩
  refine st_seq (st_if1 (p := false) (et_not (p := true) (et_test (ev_call (ea_cons (ev_var (by rfl)) ea_nil) rfl fun C k => ⟨_, rfl, by rw [cols_isSeq]; exact k⟩))) (fun e => nomatch e) fun _ => ?_)
  have e0 : Ev (dOp dEqD (dCB dLen (dCons (dVar 0) dNil)) (dC (.int 0))) (env0 (["thing"].length - 1) [colsD p cols]) (.bl (decide (cols.length = 0))) :=
    ev_op (ev_cb (ea_cons (ev_var (by rfl)) ea_nil) fun C k => cv_len cols_items k) ev_c fun C k => rv_eq flat_int.shp flat_int.shp (by rw [dEq_int, List.length_map]; exact decide_eq_decide.mpr (by omega)) k
  simp only [dNext]
  refine st_ret1 (d := .bl true) ?_ (by exact h)
  cases cols with
  | nil => exact ev_orV (p := true) (q := true) e0 fun e => nomatch e
  | cons r cols =>
    have hr := ok.len r (by simp)
    have n1 := ok.n1
    have n60 := ok.n60
    refine ev_orV (p := false) (q := true) e0 fun _ => ev_andV (p := true) (q := true) ?_ fun _ => ?_
    · exact ev_call (ea_cons (ev_op (ev_var (by rfl)) ev_c fun C k => ix_cols (i := 0) (r := r) rfl k) ea_nil) rfl fun C k => ⟨r, rfl, by omega, by omega, k⟩
    · refine ev_call (ea_cons (ev_var (by rfl)) (ea_cons (ev_cb (ea_cons (ev_op (ev_var (by rfl)) ev_c fun C k => ix_cols (i := 0) (r := r) rfl k) ea_nil) fun C k => cv_len (xs := r.map .int) rfl k) ea_nil)) rfl fun C k => ⟨p, r :: cols, n, by rw [List.length_map, hr], ok, k⟩
def w_is_row_beside : PW := fun ds C => ∃ p cols n, ∃ g : List Int, ds = [rowD g, colsD p cols] ∧ Cols n cols ∧ g.length = n ∧ C (.bl true)
def r_is_row_beside : DS := (dRet (dAndV (dCallP 1 w_is_row (dCons (dVar 0) dNil)) (dOrV (dOp dEqD (dCB dLen (dCons (dVar 1) dNil)) (dC (.int 0))) (dOp dEqD (dCB dLen (dCons (dVar 0) dNil)) (dCB dLen (dCons (dOp dIx (dVar 1) (dC (.int 0))) dNil))))))
theorem body_is_row_beside : ∀ (as : List D) (C : D → Prop), as.length = 2 → w_is_row_beside as C → r_is_row_beside (env0 (["thing", "rows"].length - 2) as) { nx := fun _ => C .non, rt := fun d _ => C d } := by
  rintro as C _ ⟨p, cols, n, g, rfl, ok, hg, h⟩
  have n1 := ok.n1
  have n60 := ok.n60
  have e0 : Ev (dOp dEqD (dCB dLen (dCons (dVar 1) dNil)) (dC (.int 0))) (env0 (["thing", "rows"].length - 2) [rowD g, colsD p cols]) (.bl (decide (cols.length = 0))) :=
    ev_op (ev_cb (ea_cons (ev_var (by rfl)) ea_nil) fun C k => cv_len cols_items k) ev_c fun C k => rv_eq flat_int.shp flat_int.shp (by rw [dEq_int, List.length_map]; exact decide_eq_decide.mpr (by omega)) k
  refine st_ret1 (d := .bl true) ?_ (by exact h)
  refine ev_andV (p := true) (q := true) (ev_call (ea_cons (ev_var (by rfl)) ea_nil) rfl fun C k => ⟨g, rfl, by omega, by omega, k⟩) fun _ => ?_
  cases cols with
  | nil => exact ev_orV (p := true) (q := true) e0 fun e => nomatch e
  | cons r cols =>
    have hr := ok.len r (by simp)
    refine ev_orV (p := false) (q := true) e0 fun _ => ?_
    exact ev_op (ev_cb (ea_cons (ev_var (by rfl)) ea_nil) fun C k => cv_len (xs := g.map .int) rfl k) (ev_cb (ea_cons (ev_op (ev_var (by rfl)) ev_c fun C k => ix_cols (i := 0) (r := r) rfl k) ea_nil) fun C k => cv_len (xs := r.map .int) rfl k)
      fun C k => rv_eq flat_int.shp flat_int.shp (by rw [dEq_int, List.length_map, List.length_map]; exact decide_eq_true (by omega)) k
section
variable {P : Program} {w : World} {K : PySem.W.Frag} {mg : Str → Option Value} {base : Heap}
theorem sc_is_number : FnScope ["thing"] ["thing"] (defScope (top 8)) := ⟨rfl, rfl, rfl, by decide +kernel, rfl, by decide +kernel, by decide +kernel⟩
theorem ok_is_number (T : Top P w K mg) : Fn P w K mg base 1 "is_number" ["thing"] (PSp 1 w_is_number) := by
  obtain ⟨fd, F⟩ := T.fn 0 (x := "is_number") (st := (top 8)) rfl
  have sc := sc_is_number
  have tm : ∀ x, x ∈ frees → mg x = none := fun x hx => T.free x (mem_free hx)
  refine ⟨⟨fd, F.ok sc (fun vs H Q E h => h.len) (fun cdv A outer s H vs Q E hr h => ?d), F.bindsN fun _ _ _ _ _ _ us hl => match us, hl with | [_], _ => rfl⟩, T.glo "is_number" (mem_glo (by decide +kernel)), F.kp⟩
  exact ⟨_, PSs.nox (pss_one (ps_ret (pe_and (pe_callB (show CallR _ _ (rIsi K) from call_isi) (by rfl) (tm "isinstance" (by decide +kernel)) (by decide +kernel) (pa_cons (pv 0) (pa_cons (pe_bltn (v := .ty "int") (by rfl) (tm "int" (by decide +kernel)) (by decide +kernel) rfl) pa_nil))) (pe_one (pe_not (pe_callB (show CallR _ _ (rIsi K) from call_isi) (by rfl) (tm "isinstance" (by decide +kernel)) (by decide +kernel) (pa_cons (pv 0) (pa_cons (pe_bltn (v := .ty "bool") (by rfl) (tm "bool" (by decide +kernel)) (by decide +kernel) rfl) pa_nil)))))))), ps_body h (ds := r_is_number) inferInstance body_is_number⟩
theorem sc_is_list : FnScope ["thing"] ["thing"] (defScope (top 9)) := ⟨rfl, rfl, rfl, by decide +kernel, rfl, by decide +kernel, by decide +kernel⟩
theorem ok_is_list (T : Top P w K mg) : Fn P w K mg base 1 "is_list" ["thing"] (PSp 1 w_is_list) := by
  obtain ⟨fd, F⟩ := T.fn 1 (x := "is_list") (st := (top 9)) rfl
  have sc := sc_is_list
  have tm : ∀ x, x ∈ frees → mg x = none := fun x hx => T.free x (mem_free hx)
  refine ⟨⟨fd, F.ok sc (fun vs H Q E h => h.len) (fun cdv A outer s H vs Q E hr h => ?d), F.bindsN fun _ _ _ _ _ _ us hl => match us, hl with | [_], _ => rfl⟩, T.glo "is_list" (mem_glo (by decide +kernel)), F.kp⟩
  exact ⟨_, PSs.nox (pss_one (ps_ret (pe_callB (show CallR _ _ (rIsiT K) from call_isiT) (by rfl) (tm "isinstance" (by decide +kernel)) (by decide +kernel) (pa_cons (pv 0) (pa_cons (pe_tup (pa_cons (pe_bltn (v := .ty "list") (by rfl) (tm "list" (by decide +kernel)) (by decide +kernel) rfl) (pa_cons (pe_bltn (v := .ty "tuple") (by rfl) (tm "tuple" (by decide +kernel)) (by decide +kernel) rfl) pa_nil))) pa_nil))))), ps_body h (ds := r_is_list) inferInstance body_is_list⟩
theorem sc_is_row : FnScope ["thing", "number"] ["thing"] (defScope (top 10)) := ⟨rfl, rfl, rfl, by decide +kernel, rfl, by decide +kernel, by decide +kernel⟩
theorem ok_is_row (T : Top P w K mg) : Fn P w K mg base 2 "is_row" ["thing"] (PSp 1 w_is_row) := by
  obtain ⟨fd, F⟩ := T.fn 2 (x := "is_row") (st := (top 10)) rfl
  have sc := sc_is_row
  have tm : ∀ x, x ∈ frees → mg x = none := fun x hx => T.free x (mem_free hx)
  refine ⟨⟨fd, F.ok sc (fun vs H Q E h => h.len) (fun cdv A outer s H vs Q E hr h => ?d), F.bindsN fun _ _ _ _ _ _ us hl => match us, hl with | [_], _ => rfl⟩, T.glo "is_row" (mem_glo (by decide +kernel)), F.kp⟩
  exact ⟨_, PSs.nox (pss_one (ps_ret (pe_and (pe_callB (show CallR _ _ (rIsi K) from call_isi) (by rfl) (tm "isinstance" (by decide +kernel)) (by decide +kernel) (pa_cons (pv 0) (pa_cons (pe_bltn (v := .ty "tuple") (by rfl) (tm "tuple" (by decide +kernel)) (by decide +kernel) rfl) pa_nil))) (pe_and (pe_chain op_le op_le pe_int (pe_callB (show CallR _ _ (rLenQ K) from cl_len) (by rfl) (tm "len" (by decide +kernel)) (by decide +kernel) (pa_cons (pv 0) pa_nil)) pe_int) (pe_one (pe_callB (show CallR _ _ (rAll K) from cr_all rfl) (by rfl) (tm "all" (by decide +kernel)) (by decide +kernel) (pa_cons (pe_lc (own := [("number", 1)]) (g := (gName 1)) rfl sc.nd (pi_seq (pv 0)) (blkOk_by (N := ["thing", "number"]) (sc := defScope (top 10)) (by decide +kernel)) (fun _ _ _ _ _ => (pg_name (i := 1) sc.nd rfl (by first | exact Or.inl rfl | exact Or.inr rfl))) (fun _ _ _ _ _ => pts_nil) (fun _ _ _ _ _ => (pe_f (ok_is_number T) hr rfl (pa_cons (pv 1) pa_nil)))) pa_nil))))))), ps_body h (ds := r_is_row) inferInstance body_is_row⟩
theorem sc_is_row_of : FnScope ["thing", "many", "number"] ["thing", "many"] (defScope (top 11)) := ⟨rfl, rfl, rfl, by decide +kernel, rfl, by decide +kernel, by decide +kernel⟩
theorem ok_is_row_of (T : Top P w K mg) : Fn P w K mg base 2 "is_row_of" ["thing", "many"] (PSp 2 w_is_row_of) := by
  obtain ⟨fd, F⟩ := T.fn 3 (x := "is_row_of") (st := (top 11)) rfl
  have sc := sc_is_row_of
  have tm : ∀ x, x ∈ frees → mg x = none := fun x hx => T.free x (mem_free hx)
  refine ⟨⟨fd, F.ok sc (fun vs H Q E h => h.len) (fun cdv A outer s H vs Q E hr h => ?d), F.bindsN fun _ _ _ _ _ _ us hl => match us, hl with | [_, _], _ => rfl⟩, T.glo "is_row_of" (mem_glo (by decide +kernel)), F.kp⟩
  exact ⟨_, PSs.nox (pss_one (ps_ret (pe_and (pe_callB (show CallR _ _ (rIsi K) from call_isi) (by rfl) (tm "isinstance" (by decide +kernel)) (by decide +kernel) (pa_cons (pv 0) (pa_cons (pe_bltn (v := .ty "tuple") (by rfl) (tm "tuple" (by decide +kernel)) (by decide +kernel) rfl) pa_nil))) (pe_and (pe_cmpR (show OpR _ _ (rEqD K) from op_eqD hr.units) (pe_callB (show CallR _ _ (rLenQ K) from cl_len) (by rfl) (tm "len" (by decide +kernel)) (by decide +kernel) (pa_cons (pv 0) pa_nil)) (pv 1) (nomark _)) (pe_one (pe_callB (show CallR _ _ (rAll K) from cr_all rfl) (by rfl) (tm "all" (by decide +kernel)) (by decide +kernel) (pa_cons (pe_lc (own := [("number", 2)]) (g := (gName 2)) rfl sc.nd (pi_seq (pv 0)) (blkOk_by (N := ["thing", "many", "number"]) (sc := defScope (top 11)) (by decide +kernel)) (fun _ _ _ _ _ => (pg_name (i := 2) sc.nd rfl (by first | exact Or.inl rfl | exact Or.inr rfl))) (fun _ _ _ _ _ => pts_nil) (fun _ _ _ _ _ => (pe_f (ok_is_number T) hr rfl (pa_cons (pv 2) pa_nil)))) pa_nil))))))), ps_body h (ds := r_is_row_of) inferInstance body_is_row_of⟩
theorem sc_are_rows_of : FnScope ["thing", "many", "row"] ["thing", "many"] (defScope (top 12)) := ⟨rfl, rfl, rfl, by decide +kernel, rfl, by decide +kernel, by decide +kernel⟩
theorem ok_are_rows_of (T : Top P w K mg) : Fn P w K mg base 3 "are_rows_of" ["thing", "many"] (PSp 2 w_are_rows_of) := by
  obtain ⟨fd, F⟩ := T.fn 4 (x := "are_rows_of") (st := (top 12)) rfl
  have sc := sc_are_rows_of
  have tm : ∀ x, x ∈ frees → mg x = none := fun x hx => T.free x (mem_free hx)
  refine ⟨⟨fd, F.ok sc (fun vs H Q E h => h.len) (fun cdv A outer s H vs Q E hr h => ?d), F.bindsN fun _ _ _ _ _ _ us hl => match us, hl with | [_, _], _ => rfl⟩, T.glo "are_rows_of" (mem_glo (by decide +kernel)), F.kp⟩
  exact ⟨_, PSs.nox (pss_one (ps_ret (pe_and (pe_f (ok_is_list T) (hr.mono (by decide)) rfl (pa_cons (pv 0) pa_nil)) (pe_one (pe_callB (show CallR _ _ (rAll K) from cr_all rfl) (by rfl) (tm "all" (by decide +kernel)) (by decide +kernel) (pa_cons (pe_lc (own := [("row", 2)]) (g := (gName 2)) rfl sc.nd (pi_seq (pv 0)) (blkOk_by (N := ["thing", "many", "row"]) (sc := defScope (top 12)) (by decide +kernel)) (fun _ _ _ _ _ => (pg_name (i := 2) sc.nd rfl (by first | exact Or.inl rfl | exact Or.inr rfl))) (fun _ _ _ _ _ => pts_nil) (fun _ _ _ _ _ => (pe_f (ok_is_row_of T) hr rfl (pa_cons (pv 2) (pa_cons (pv 1) pa_nil))))) pa_nil)))))), ps_body h (ds := r_are_rows_of) inferInstance body_are_rows_of⟩
theorem sc_are_rows : FnScope ["thing"] ["thing"] (defScope (top 13)) := ⟨rfl, rfl, rfl, by decide +kernel, rfl, by decide +kernel, by decide +kernel⟩
theorem ok_are_rows (T : Top P w K mg) : Fn P w K mg base 4 "are_rows" ["thing"] (PSp 1 w_are_rows) := by
  obtain ⟨fd, F⟩ := T.fn 5 (x := "are_rows") (st := (top 13)) rfl
  have sc := sc_are_rows
  have tm : ∀ x, x ∈ frees → mg x = none := fun x hx => T.free x (mem_free hx)
  refine ⟨⟨fd, F.ok sc (fun vs H Q E h => h.len) (fun cdv A outer s H vs Q E hr h => ?d), F.bindsN fun _ _ _ _ _ _ us hl => match us, hl with | [_], _ => rfl⟩, T.glo "are_rows" (mem_glo (by decide +kernel)), F.kp⟩
  exact ⟨_, PSs.nox (pss_cons (ps_if (pt_not (pt_val (pe_f (ok_is_list T) (hr.mono (by decide)) rfl (pa_cons (pv 0) pa_nil)))) (pss_one (ps_ret pe_bl)) pss_nil) (pss_one (ps_ret (pe_or (pe_cmpR (show OpR _ _ (rEqD K) from op_eqD hr.units) (pe_callB (show CallR _ _ (rLenQ K) from cl_len) (by rfl) (tm "len" (by decide +kernel)) (by decide +kernel) (pa_cons (pv 0) pa_nil)) pe_int (nomark _)) (pe_one (pe_and (pe_f (ok_is_row T) (hr.mono (by decide)) rfl (pa_cons (pe_ix (show IxR _ (fun x y H Q => rIxL K x y H Q ∨ rIxT K x y H Q) from ix_any) (pv 0) pe_int (fun _ _ => rfl)) pa_nil)) (pe_one (pe_f (ok_are_rows_of T) hr rfl (pa_cons (pv 0) (pa_cons (pe_callB (show CallR _ _ (rLenQ K) from cl_len) (by rfl) (tm "len" (by decide +kernel)) (by decide +kernel) (pa_cons (pe_ix (show IxR _ (fun x y H Q => rIxL K x y H Q ∨ rIxT K x y H Q) from ix_any) (pv 0) pe_int (fun _ _ => rfl)) pa_nil)) pa_nil)))))))))), ps_body h (ds := r_are_rows) inferInstance body_are_rows⟩
theorem sc_is_row_beside : FnScope ["thing", "rows"] ["thing", "rows"] (defScope (top 14)) := ⟨rfl, rfl, rfl, by decide +kernel, rfl, by decide +kernel, by decide +kernel⟩
theorem ok_is_row_beside (T : Top P w K mg) : Fn P w K mg base 3 "is_row_beside" ["thing", "rows"] (PSp 2 w_is_row_beside) := by
  obtain ⟨fd, F⟩ := T.fn 6 (x := "is_row_beside") (st := (top 14)) rfl
  have sc := sc_is_row_beside
  have tm : ∀ x, x ∈ frees → mg x = none := fun x hx => T.free x (mem_free hx)
  refine ⟨⟨fd, F.ok sc (fun vs H Q E h => h.len) (fun cdv A outer s H vs Q E hr h => ?d), F.bindsN fun _ _ _ _ _ _ us hl => match us, hl with | [_, _], _ => rfl⟩, T.glo "is_row_beside" (mem_glo (by decide +kernel)), F.kp⟩
  exact ⟨_, PSs.nox (pss_one (ps_ret (pe_and (pe_f (ok_is_row T) hr rfl (pa_cons (pv 0) pa_nil)) (pe_one (pe_or (pe_cmpR (show OpR _ _ (rEqD K) from op_eqD hr.units) (pe_callB (show CallR _ _ (rLenQ K) from cl_len) (by rfl) (tm "len" (by decide +kernel)) (by decide +kernel) (pa_cons (pv 1) pa_nil)) pe_int (nomark _)) (pe_one (pe_cmpR (show OpR _ _ (rEqD K) from op_eqD hr.units) (pe_callB (show CallR _ _ (rLenQ K) from cl_len) (by rfl) (tm "len" (by decide +kernel)) (by decide +kernel) (pa_cons (pv 0) pa_nil)) (pe_callB (show CallR _ _ (rLenQ K) from cl_len) (by rfl) (tm "len" (by decide +kernel)) (by decide +kernel) (pa_cons (pe_ix (show IxR _ (fun x y H Q => rIxL K x y H Q ∨ rIxT K x y H Q) from ix_any) (pv 1) pe_int (fun _ _ => rfl)) pa_nil)) (nomark _)))))))), ps_body h (ds := r_is_row_beside) inferInstance body_is_row_beside⟩

end
end K04
set_option Elab.async false
set_option linter.all false
set_option maxRecDepth 100000
set_option maxHeartbeats 4000000
set_option synthInstance.maxHeartbeats 4000000
set_option synthInstance.maxSize 100000
namespace K04
open PySem PySem.Spec PyProof.Rows L2 RZ Lf
def w_divisor : PW := fun ds C => ∃ (x : D) (r : List Int), ds = [x] ∧ x.items? = some (r.map .int) ∧ r.length ≤ 1000 ∧ C (.int (Sx.gcdL r : Nat))
def r_divisor : DS := (dSeq (dAsg (dC (.int 0)) (dgN 1)) (dSeq (dFor (diSeq (dVar 0)) (dgN 2) (dAsg (dCB dGcd (dCons (dVar 1) (dCons (dVar 2) dNil))) (dgN 1))) (dRet (dVar 1))))
theorem gcd_take {r : List Int} {i : Nat} {v : Int} (h : r[i]? = some v) : Sx.gcdL (r.take (i + 1)) = Nat.gcd (Sx.gcdL (r.take i)) v.natAbs := by
  unfold Sx.gcdL
  rw [take_next h, List.foldl_append]; rfl
theorem body_divisor : ∀ (as : List D) (C : D → Prop), as.length = 1 → w_divisor as C → r_divisor (env0 (["row", "found", "number"].length - 1) as) { nx := fun _ => C .non, rt := fun d _ => C d } := by
  rintro as C _ ⟨x, r, rfl, hx, hl, h⟩
  refine st_seq (st_asg1 ev_c (by rfl) ?_)
  refine st_seq (st_for (xs := r.map .int) (fun i e => ∃ t : Option D, e = [some (.d x), some (.d (.int (Sx.gcdL (r.take i) : Nat))), t.map .d]) (ei_seq (ev_var (by rfl)) hx) ⟨none, by rfl⟩ ?_ ?_)
  · rintro i y e hy ⟨t, rfl⟩
    obtain ⟨v, hv, rfl⟩ : ∃ v, r[i]? = some v ∧ y = .int v := by
      rw [List.getElem?_map] at hy
      cases q : r[i]? with
      | none => rw [q] at hy; cases hy
      | some v => rw [q] at hy; exact ⟨v, rfl, by simpa using hy.symm⟩
    refine ⟨_, tg_n (by cases t <;> rfl), st_asg1 (ev_cb (ea_cons (ev_var (by rfl)) (ea_cons (ev_var (by rfl)) ea_nil)) fun C k => cv_gcd k) (by rfl) ⟨some (.int v), ?_⟩⟩
    rw [gcd_take hv]
    rfl
  · rintro e ⟨t, rfl⟩
    refine st_ret1 (ev_var (by rfl)) ?_
    rw [List.length_map, List.take_length]
    exact h
/-- numbers that the built-ins divide -/
def Wide (r : List Int) : Prop := Sx.gcdL r < 2 ^ 8000
theorem wide_of {r : List Int} (h : ∀ x ∈ r, x.natAbs < 2 ^ 8000) : Wide r := Sx.gcd_wide h (Nat.two_pow_pos _)
theorem wide_head {s : Int} {r : List Int} (h : s ≠ 0) (b : s.natAbs < 2 ^ 8000) : Wide (s :: r) := Nat.lt_of_le_of_lt (Sx.gcd_le List.mem_cons_self h) b
def w_reduced : PW := fun ds C => ∃ (x : D) (r : List Int), ds = [x] ∧ x.items? = some (r.map .int) ∧ r.length ≤ 1000 ∧ Wide r ∧ C (rowD (Sx.red r))
def r_reduced : DS := (dSeq (dAsg (dCallP 1 w_divisor (dCons (dVar 0) dNil)) (dgN 1)) (dRet (dIf (dTest (dOp (rIB fun i j => decide (i < j)) (dVar 1) (dC (.int 2)))) (dCB dTupQ (dCons (dVar 0) dNil)) (dCB dTupQ (dCons (dOfN (dLcN (diSeq (dVar 0)) (dgN 2) [2] dYes (dOp dbFdiv (dVar 2) (dVar 1)) [2])) dNil)))))
theorem body_reduced : ∀ (as : List D) (C : D → Prop), as.length = 1 → w_reduced as C → r_reduced (env0 (["row", "shared", "number"].length - 1) as) { nx := fun _ => C .non, rt := fun d _ => C d } := by
  rintro as C _ ⟨x, r, rfl, hx, hl, hw, h⟩
  refine st_seq (st_asg1 (ev_call (ea_cons (ev_var (by rfl)) ea_nil) rfl fun C k => ⟨x, r, rfl, hx, hl, k⟩) (by rfl) ?_)
  dsimp only
  refine st_ret1 (d := rowD (Sx.red r)) ?_ h
  have l : (r.map D.int).length = r.length := List.length_map ..
  refine ev_if (p := decide (((Sx.gcdL r : Nat) : Int) < 2)) (et_test (ev_op (ev_var (by rfl)) ev_c fun C k => rv_ib rfl k)) (fun e => ?_) fun e => ?_
  · have e1 := of_decide_eq_true e
    have : Sx.red r = r := by unfold Sx.red; rw [if_pos (by omega)]
    rw [this]
    exact ev_cb (ea_cons (ev_var (by rfl)) ea_nil) fun C k => cv_tup hx k
  · have e1 := of_decide_eq_false e
    have e2 : Sx.red r = r.map fun x => x / (Sx.gcdL r : Int) := by unfold Sx.red; rw [if_neg (by omega)]
    have gw : ((Sx.gcdL r : Nat) : Int).natAbs < 2 ^ 8000 := by
      rw [Int.natAbs_natCast]; exact hw
    rw [e2]
    refine ev_cb (ea_cons (ev_map (fun y => match y with | .int v => .int (v / (Sx.gcdL r : Int)) | _ => y) (ei_seq (ev_var (by rfl)) hx) (by omega) (by simp) (by rfl) fun y hy => ⟨_, tg_n (by rfl), ?_⟩) ea_nil) fun C k => cv_tup rfl (by
      have : (r.map D.int).map (fun y => match y with | .int v => D.int (v / (Sx.gcdL r : Int)) | _ => y) = (r.map fun x => x / (Sx.gcdL r : Int)).map D.int := by simp
      unfold rowD at k
      rw [this]; exact k)
    obtain ⟨v, _, rfl⟩ := List.mem_map.mp hy
    exact ev_op (ev_var (by rfl)) (ev_var (by rfl)) fun C k => rv_fdivW (wide_div (by omega) gw (by decide) (by decide)) rfl k
/-- a sparse row -/
def spD (c : List Int) : D := .lst ((Sx.sp c 0).map fun q => .tup [.int (q.1 : Nat), .int q.2])
def w_sparse : PW := fun ds C => ∃ c : List Int, ds = [rowD c] ∧ c.length ≤ 1000 ∧ C (spD c)
def nzD : D → List D
  | .tup [.int k, .int v] => if v = 0 then [] else [.tup [.int k, .int v]]
  | _ => []
theorem enum_sp : ∀ (c : List Int) (k : Nat), ((c.map D.int).mapIdx fun i x => D.tup [.int ((k + i : Nat) : Int), x]).flatMap nzD = (Sx.sp c k).map fun q => .tup [.int (q.1 : Nat), .int q.2]
  | [], k => rfl
  | v :: c, k => by
    have ih := enum_sp c (k + 1)
    have e : (fun i (x : D) => D.tup [.int ((k + (i + 1) : Nat) : Int), x]) = fun i x => D.tup [.int ((k + 1 + i : Nat) : Int), x] := by
      funext i x
      have : k + (i + 1) = k + 1 + i := by omega
      rw [this]
    rw [List.map_cons, List.mapIdx_cons, List.flatMap_cons, e, ih]
    simp only [Sx.sp, Nat.add_zero, nzD]
    by_cases h : v = 0 <;> simp [h]
def r_sparse : DS := (dRet (dOfN (dLcN (diEnumS (dCons (dVar 0) dNil)) (dgTup 2 (dgCons (dgN 1) (dgCons (dgN 2) dgNil))) [1, 2] (dTest (dOp dNeD (dVar 2) (dC (.int 0)))) (dTup (dCons (dVar 1) (dCons (dVar 2) dNil))) [1, 2])))
theorem body_sparse : ∀ (as : List D) (C : D → Prop), as.length = 1 → w_sparse as C → r_sparse (env0 (["column", "k", "number"].length - 1) as) { nx := fun _ => C .non, rt := fun d _ => C d } := by
  rintro as C _ ⟨c, rfl, hl, h⟩
  have l := rowD_len c
  refine st_ret1 (d := spD c) ?_ h
  have e : spD c = .lst ((enumD (c.map .int)).flatMap nzD) := by
    unfold spD enumD
    rw [← enum_sp c 0]
    simp
  rw [e]
  refine ev_lc nzD (ei_enum (p := true) (ea_cons (ev_var (by rfl)) ea_nil) rfl) (by rw [enumD_len]; omega) (by simp) (by rfl) fun x hx => ?_
  obtain ⟨i, hi⟩ := List.mem_iff_getElem?.mp hx
  have hlt := (List.getElem?_eq_some_iff.mp hi).1
  rw [enumD_len, l] at hlt
  have : (enumD (c.map .int))[i]? = some (.tup [.int (i : Nat), .int (Sx.fn c i)]) := enumD_at (by rw [List.getElem?_map, Sx.fn_at hlt]; rfl)
  rw [this] at hi
  cases hi
  refine ⟨_, tg_two (by rfl) (by rfl), ?_⟩
  by_cases z : Sx.fn c i = 0
  · exact .inr ⟨by simp [nzD, z], et_test (ev_op (ev_var (by rfl)) ev_c fun C k => rv_ne flat_int.shp flat_int.shp (by rw [dEq_int]; simp [z]) k)⟩
  · exact .inl ⟨.tup [.int (i : Nat), .int (Sx.fn c i)], by simp only [nzD, z, if_false], et_test (ev_op (ev_var (by rfl)) ev_c fun C k => rv_ne flat_int.shp flat_int.shp (by rw [dEq_int]; simp [z]) k), ev_tup (ea_cons (ev_var (by rfl)) (ea_cons (ev_var (by rfl)) ea_nil)) (by show 2 ≤ 100000; decide)⟩
theorem ev_mapG {α : Type} {env : Lf.Env} {di : DI} {dg : DG} {js vs : List Nat} {de : DE} {l : List α} (g f : α → D) (hi : EvI di env (l.map g)) (ln : l.length ≤ 100000) (hj : ∀ j ∈ js, j ∈ vs) (no : noOwnB env vs = true)
    (h : ∀ a ∈ l, ∃ e2, Tg dg (g a) (wipeE env vs) e2 ∧ Ev de e2 (f a)) : Ev (dOfN (dLcN di dg js dYes de vs)) env (.lst (l.map f)) := fun C k =>
  es_lc (fun i d => ∃ a, l[i]? = some a ∧ d = f a) hi (by rw [List.length_map]; exact ln) hj no (fun i x hx => by
    rw [List.getElem?_map] at hx
    obtain ⟨a, ha, rfl⟩ := Option.map_eq_some_iff.mp hx
    obtain ⟨e2, h1, h2⟩ := h a (List.mem_of_getElem? ha)
    exact ⟨e2, h1, fun C k => h2 _ fun d e => k _ ⟨a, ha, e⟩⟩) _ fun d ⟨ys, e, el, hy⟩ => k _ (by
      subst e
      congr 1
      refine List.ext_getElem? fun i => ?_
      by_cases q : i < ys.length
      · obtain ⟨a, ha, e⟩ := hy i _ (List.getElem?_eq_getElem q)
        rw [List.getElem?_eq_getElem q, List.getElem?_map, ha, e]; rfl
      · rw [List.getElem?_eq_none (by omega), List.getElem?_eq_none (by rw [List.length_map] at el ⊢; omega)])
/-- prices[k] * number over sparse rows -/
def w_prices_of : PW := fun ds C => ∃ (p : List Int) (cols : List (List Int)), ds = [.lst (p.map .int), .lst (cols.map spD)] ∧ cols.length ≤ 1000 ∧ p.length ≤ 1000 ∧ (∀ c ∈ cols, c.length = p.length ∧ ∀ x ∈ c, x.natAbs < 2 ^ 64) ∧ C (.lst (cols.map fun c => .int (Sx.dot p.length (Sx.fn p) (Sx.fn c))))
def r_prices_of : DS := (dRet (dOfN (dLcN (diSeq (dVar 1)) (dgN 2) [2] dYes (dCB dSum (dCons (dOfN (dLcN (diSeq (dVar 2)) (dgTup 2 (dgCons (dgN 3) (dgCons (dgN 4) dgNil))) [3, 4] dYes (dOp dbMul (dOp dIx (dVar 0) (dVar 3)) (dVar 4)) [3, 4])) dNil)) [2])))
theorem body_prices_of : ∀ (as : List D) (C : D → Prop), as.length = 2 → w_prices_of as C → r_prices_of (env0 (["prices", "columns", "column", "k", "number"].length - 2) as) { nx := fun _ => C .non, rt := fun d _ => C d } := by
  rintro as C _ ⟨p, cols, rfl, few, hp, hc, h⟩
  refine st_ret1 (d := .lst (cols.map fun c => .int (Sx.dot p.length (Sx.fn p) (Sx.fn c)))) (ev_mapG (l := cols) spD (fun c => .int (Sx.dot p.length (Sx.fn p) (Sx.fn c))) (ei_seq (ev_var (by rfl)) rfl) (by omega) (by simp) (by rfl) fun c hcm => ⟨_, tg_n (by rfl), ?_⟩) h
  obtain ⟨hl, hb⟩ := hc c hcm
  have l := Sx.sp_len c 0
  refine ev_cb (ea_cons (ev_map (fun y => match y with | .tup [.int k, .int v] => .int (Sx.fn p k.toNat * v) | _ => y) (ei_seq (ev_var (d := spD c) (by rfl)) rfl) (by rw [List.length_map]; omega) (by simp) (by rfl) fun y hy => ?_) ea_nil)
    fun C k => cv_sum (ns := (Sx.sp c 0).map fun q => Sx.fn p q.1 * q.2) (by simp) (by
      have := Sx.sp_sum (Sx.fn p) c 0
      simp only [Nat.zero_add] at this
      rw [this, hl]
      exact k)
  obtain ⟨q, hq, rfl⟩ := List.mem_map.mp hy
  have ⟨_, q2, q3⟩ := Sx.sp_lt c 0 q hq
  have b := hb _ q3
  refine ⟨_, tg_two (by rfl) (by rfl), ?_⟩
  have hk : (p.map D.int)[q.1]? = some (.int (Sx.fn p q.1)) := by rw [List.getElem?_map, Sx.fn_at (by omega)]; rfl
  exact ev_op (ev_op (ev_var (by rfl)) (ev_var (by rfl)) fun C k => rv_ixL (atI_nat hk) k) (ev_var (by rfl)) fun C k => rv_mul (.inl (.inr ⟨by omega, by omega⟩)) (by simp) k

/-- prices[k] * number over a sparse row -/
def w_price_of : PW := fun ds C => ∃ p c : List Int, ds = [.lst (p.map .int), spD c] ∧ p.length = c.length ∧ c.length ≤ 1000 ∧ (∀ x ∈ c, x.natAbs < 2 ^ 64) ∧ C (.int (Sx.dot c.length (Sx.fn p) (Sx.fn c)))
def r_price_of : DS := (dRet (dCB dSum (dCons (dOfN (dLcN (diSeq (dVar 1)) (dgTup 2 (dgCons (dgN 2) (dgCons (dgN 3) dgNil))) [2, 3] dYes (dOp dbMul (dOp dIx (dVar 0) (dVar 2)) (dVar 3)) [2, 3])) dNil)))
theorem body_price_of : ∀ (as : List D) (C : D → Prop), as.length = 2 → w_price_of as C → r_price_of (env0 (["prices", "column", "k", "number"].length - 2) as) { nx := fun _ => C .non, rt := fun d _ => C d } := by
  rintro as C _ ⟨p, c, rfl, hl, hc, hb, h⟩
  have l := Sx.sp_len c 0
  refine st_ret1 (d := .int (Sx.dot c.length (Sx.fn p) (Sx.fn c))) ?_ h
  refine ev_cb (ea_cons (ev_map (fun y => match y with | .tup [.int k, .int v] => .int (Sx.fn p k.toNat * v) | _ => y) (ei_seq (ev_var (by rfl)) rfl) (by rw [List.length_map]; omega) (by simp) (by rfl) fun y hy => ?_) ea_nil)
    fun C k => cv_sum (ns := (Sx.sp c 0).map fun q => Sx.fn p q.1 * q.2) (by simp) (by
      have := Sx.sp_sum (Sx.fn p) c 0
      simp only [Nat.zero_add] at this
      rw [this]
      exact k)
  obtain ⟨q, hq, rfl⟩ := List.mem_map.mp hy
  have ⟨_, q2, q3⟩ := Sx.sp_lt c 0 q hq
  have b := hb _ q3
  refine ⟨_, tg_two (by rfl) (by rfl), ?_⟩
  have hk : (p.map D.int)[q.1]? = some (.int (Sx.fn p q.1)) := by rw [List.getElem?_map, Sx.fn_at (by omega)]; rfl
  exact ev_op (ev_op (ev_var (by rfl)) (ev_var (by rfl)) fun C k => rv_ixL (atI_nat hk) k) (ev_var (by rfl)) fun C k => rv_mul (.inl (.inr ⟨by omega, by omega⟩)) (by simp) k
def w_check_columns_and_goal : PW := fun ds C => ∃ p cols n, ∃ g : List Int, ds = [colsD p cols, rowD g] ∧ Cols n cols ∧ g.length = n ∧ C .non
def r_check_columns_and_goal : DS := (dSeq (dIfS (dNot (dTest (dCallP 1 w_are_rows (dCons (dVar 0) dNil)))) dNever dNext) (dIfS (dNot (dTest (dCallP 2 w_is_row_beside (dCons (dVar 1) (dCons (dVar 0) dNil))))) dNever dNext))
theorem body_check_columns_and_goal : ∀ (as : List D) (C : D → Prop), as.length = 2 → w_check_columns_and_goal as C → r_check_columns_and_goal (env0 (["columns", "goal"].length - 2) as) { nx := fun _ => C .non, rt := fun d _ => C d } := by
  rintro as C _ ⟨p, cols, n, g, rfl, ok, hg, h⟩
  refine st_seq (st_if1 (p := false) (et_not (p := true) (et_test (ev_call (ea_cons (ev_var (by rfl)) ea_nil) rfl fun C k => ⟨p, cols, n, rfl, ok, k⟩))) (fun e => nomatch e) fun _ => ?_)
  simp only [dNext]
  exact st_if1 (p := false) (et_not (p := true) (et_test (ev_call (ea_cons (ev_var (by rfl)) (ea_cons (ev_var (by rfl)) ea_nil)) rfl fun C k => ⟨p, cols, n, g, rfl, ok, hg, k⟩))) (fun e => nomatch e) fun _ => h
def w_check_deal : PW := w_check_columns_and_goal
def r_check_deal : DS := (dSeq (dDrop (dCallP 2 w_check_columns_and_goal (dCons (dVar 0) (dCons (dVar 1) dNil)))) (dIfS (dTest (dOp (rIB fun i j => decide (j < i)) (dCB dLen (dCons (dVar 0) dNil)) (dC (.int 400)))) dNever dNext))
theorem body_check_deal : ∀ (as : List D) (C : D → Prop), as.length = 2 → w_check_deal as C → r_check_deal (env0 (["columns", "goal"].length - 2) as) { nx := fun _ => C .non, rt := fun d _ => C d } := by
  rintro as C _ ⟨p, cols, n, g, rfl, ok, hg, h⟩
  have few := ok.few
  refine st_seq (st_drop (S := fun d => d = .non) (ev_call (ea_cons (ev_var (by rfl)) (ea_cons (ev_var (by rfl)) ea_nil)) rfl fun C k => ⟨p, cols, n, g, rfl, ok, hg, k⟩) ?_)
  exact st_if1 (p := false) (et_test (ev_op (ev_cb (ea_cons (ev_var (by rfl)) ea_nil) fun C k => cv_len cols_items k) ev_c fun C k => rv_ib (decide_eq_false (by rw [List.length_map]; omega)) k)) (fun e => nomatch e) fun _ => h
section
variable {P : Program} {w : World} {K : PySem.W.Frag} {mg : Str → Option Value} {base : Heap}
theorem sc_divisor : FnScope ["row", "found", "number"] ["row"] (defScope (top 16)) := ⟨rfl, rfl, rfl, by decide +kernel, rfl, by decide +kernel, by decide +kernel⟩
theorem ok_divisor (T : Top P w K mg) : Fn P w K mg base 1 "divisor" ["row"] (PSp 1 w_divisor) := by
  obtain ⟨fd, F⟩ := T.fn 7 (x := "divisor") (st := (top 16)) rfl
  have sc := sc_divisor
  have tm : ∀ x, x ∈ frees → mg x = none := fun x hx => T.free x (mem_free hx)
  refine ⟨⟨fd, F.ok sc (fun vs H Q E h => h.len) (fun cdv A outer s H vs Q E hr h => ?d), F.bindsN fun _ _ _ _ _ _ us hl => match us, hl with | [_], _ => rfl⟩, T.glo "divisor" (mem_glo (by decide +kernel)), F.kp⟩
  exact ⟨_, PSs.nox (pss_cons (ps_set (i := 1) sc.nd rfl (by first | exact Or.inl rfl | exact Or.inr rfl) pe_int) (pss_cons (ps_for PassesOwn.never rfl (pi_seq (pv 0)) (pg_name (i := 2) sc.nd rfl (by first | exact Or.inl rfl | exact Or.inr rfl)) (pss_one (ps_set (i := 1) sc.nd rfl (by first | exact Or.inl rfl | exact Or.inr rfl) (pe_callBfun cr_gcd rfl T.gcd (pa_cons (pv 1) (pa_cons (pv 2) pa_nil)))))) (pss_one (ps_ret (pv 1))))), ps_body h (ds := r_divisor) inferInstance body_divisor⟩
theorem sc_reduced : FnScope ["row", "shared", "number"] ["row"] (defScope (top 17)) := ⟨rfl, rfl, rfl, by decide +kernel, rfl, by decide +kernel, by decide +kernel⟩
theorem ok_reduced (T : Top P w K mg) : Fn P w K mg base 2 "reduced" ["row"] (PSp 1 w_reduced) := by
  obtain ⟨fd, F⟩ := T.fn 8 (x := "reduced") (st := (top 17)) rfl
  have sc := sc_reduced
  have tm : ∀ x, x ∈ frees → mg x = none := fun x hx => T.free x (mem_free hx)
  refine ⟨⟨fd, F.ok sc (fun vs H Q E h => h.len) (fun cdv A outer s H vs Q E hr h => ?d), F.bindsN fun _ _ _ _ _ _ us hl => match us, hl with | [_], _ => rfl⟩, T.glo "reduced" (mem_glo (by decide +kernel)), F.kp⟩
  exact ⟨_, PSs.nox (pss_cons (ps_set (i := 1) sc.nd rfl (by first | exact Or.inl rfl | exact Or.inr rfl) (pe_f (ok_divisor T) hr rfl (pa_cons (pv 0) pa_nil))) (pss_one (ps_ret (pe_ifExp (pt_cmpR op_lt (pv 1) pe_int (nomark _)) (pe_callTy (show CallR _ _ (rTupQ K) from cl_tuple) (by rfl) (tm "tuple" (by decide +kernel)) (by decide +kernel) (pa_cons (pv 0) pa_nil)) (pe_callTy (show CallR _ _ (rTupQ K) from cl_tuple) (by rfl) (tm "tuple" (by decide +kernel)) (by decide +kernel) (pa_cons (pe_lc (own := [("number", 2)]) (g := (gName 2)) rfl sc.nd (pi_seq (pv 0)) (blkOk_by (N := ["row", "shared", "number"]) (sc := defScope (top 17)) (by decide +kernel)) (fun _ _ _ _ _ => (pg_name (i := 2) sc.nd rfl (by first | exact Or.inl rfl | exact Or.inr rfl))) (fun _ _ _ _ _ => pts_nil) (fun _ _ _ _ _ => (pe_op ob_fdiv (pv 2) (pv 1)))) pa_nil)))))), ps_body h (ds := r_reduced) inferInstance body_reduced⟩
theorem sc_sparse : FnScope ["column", "k", "number"] ["column"] (defScope (top 21)) := ⟨rfl, rfl, rfl, by decide +kernel, rfl, by decide +kernel, by decide +kernel⟩
theorem ok_sparse (T : Top P w K mg) : Fn P w K mg base 1 "sparse" ["column"] (PSp 1 w_sparse) := by
  obtain ⟨fd, F⟩ := T.fn 10 (x := "sparse") (st := (top 21)) rfl
  have sc := sc_sparse
  have tm : ∀ x, x ∈ frees → mg x = none := fun x hx => T.free x (mem_free hx)
  refine ⟨⟨fd, F.ok sc (fun vs H Q E h => h.len) (fun cdv A outer s H vs Q E hr h => ?d), F.bindsN fun _ _ _ _ _ _ us hl => match us, hl with | [_], _ => rfl⟩, T.glo "sparse" (mem_glo (by decide +kernel)), F.kp⟩
  exact ⟨_, PSs.nox (pss_one (ps_ret (pe_lc (own := [("k", 1), ("number", 2)]) (g := (gTup K 2 (gCons (gName 1) (gCons (gName 2) gNil)))) rfl sc.nd (pi_enumS rfl (tm "enumerate" (by decide +kernel)) (pa_cons (pv 0) pa_nil)) (blkOk_by (N := ["column", "k", "number"]) (sc := defScope (top 21)) (by decide +kernel)) (fun _ _ _ _ _ => (pg_tup (n := 2) rfl (pgs_cons (pg_name (i := 1) sc.nd rfl (by first | exact Or.inl rfl | exact Or.inr rfl)) (pgs_cons (pg_name (i := 2) sc.nd rfl (by first | exact Or.inl rfl | exact Or.inr rfl)) pgs_nil)))) (fun _ _ _ _ _ => (pts_one (pt_cmpR (show OpR _ _ (rNeD K) from op_neD hr.units) (pv 2) pe_int (nomark _)))) (fun _ _ _ _ _ => (pe_tup (pa_cons (pv 1) (pa_cons (pv 2) pa_nil))))))), ps_body h (ds := r_sparse) inferInstance body_sparse⟩
theorem sc_price_of : FnScope ["prices", "column", "k", "number"] ["prices", "column"] (defScope (top 22)) := ⟨rfl, rfl, rfl, by decide +kernel, rfl, by decide +kernel, by decide +kernel⟩
theorem ok_price_of (T : Top P w K mg) : Fn P w K mg base 1 "price_of" ["prices", "column"] (PSp 2 w_price_of) := by
  obtain ⟨fd, F⟩ := T.fn 11 (x := "price_of") (st := (top 22)) rfl
  have sc := sc_price_of
  have tm : ∀ x, x ∈ frees → mg x = none := fun x hx => T.free x (mem_free hx)
  refine ⟨⟨fd, F.ok sc (fun vs H Q E h => h.len) (fun cdv A outer s H vs Q E hr h => ?d), F.bindsN fun _ _ _ _ _ _ us hl => match us, hl with | [_, _], _ => rfl⟩, T.glo "price_of" (mem_glo (by decide +kernel)), F.kp⟩
  exact ⟨_, PSs.nox (pss_one (ps_ret (pe_callB (show CallR _ _ (rSum K) from cr_sum rfl) (by rfl) (tm "sum" (by decide +kernel)) (by decide +kernel) (pa_cons (pe_lc (own := [("k", 2), ("number", 3)]) (g := (gTup K 2 (gCons (gName 2) (gCons (gName 3) gNil)))) rfl sc.nd (pi_seq (pv 1)) (blkOk_by (N := ["prices", "column", "k", "number"]) (sc := defScope (top 22)) (by decide +kernel)) (fun _ _ _ _ _ => (pg_tup (n := 2) rfl (pgs_cons (pg_name (i := 2) sc.nd rfl (by first | exact Or.inl rfl | exact Or.inr rfl)) (pgs_cons (pg_name (i := 3) sc.nd rfl (by first | exact Or.inl rfl | exact Or.inr rfl)) pgs_nil)))) (fun _ _ _ _ _ => pts_nil) (fun _ _ _ _ _ => (pe_op (show OpR _ _ (rbMul K) from ob_mul) (pe_ix (show IxR _ (fun x y H Q => rIxL K x y H Q ∨ rIxT K x y H Q) from ix_any) (pv 0) (pv 2) (fun _ _ => rfl)) (pv 3)))) pa_nil)))), ps_body h (ds := r_price_of) inferInstance body_price_of⟩
theorem sc_prices_of : FnScope ["prices", "columns", "column", "k", "number"] ["prices", "columns"] (defScope (top 23)) := ⟨rfl, rfl, rfl, by decide +kernel, rfl, by decide +kernel, by decide +kernel⟩
theorem ok_prices_of (T : Top P w K mg) : Fn P w K mg base 1 "prices_of" ["prices", "columns"] (PSp 2 w_prices_of) := by
  obtain ⟨fd, F⟩ := T.fn 12 (x := "prices_of") (st := (top 23)) rfl
  have sc := sc_prices_of
  have tm : ∀ x, x ∈ frees → mg x = none := fun x hx => T.free x (mem_free hx)
  refine ⟨⟨fd, F.ok sc (fun vs H Q E h => h.len) (fun cdv A outer s H vs Q E hr h => ?d), F.bindsN fun _ _ _ _ _ _ us hl => match us, hl with | [_, _], _ => rfl⟩, T.glo "prices_of" (mem_glo (by decide +kernel)), F.kp⟩
  exact ⟨_, PSs.nox (pss_one (ps_ret (pe_lc (own := [("column", 2)]) (g := (gName 2)) rfl sc.nd (pi_seq (pv 1)) (blkOk_by (N := ["prices", "columns", "column", "k", "number"]) (sc := defScope (top 23)) (by decide +kernel)) (fun _ _ _ _ _ => (pg_name (i := 2) sc.nd rfl (by first | exact Or.inl rfl | exact Or.inr rfl))) (fun _ _ _ _ _ => pts_nil) (fun _ _ _ _ _ => (pe_callB (show CallR _ _ (rSum K) from cr_sum rfl) (by rfl) (tm "sum" (by decide +kernel)) (by decide +kernel) (pa_cons (pe_lc (own := [("k", 3), ("number", 4)]) (g := (gTup K 2 (gCons (gName 3) (gCons (gName 4) gNil)))) rfl sc.nd (show PI _ _ _ (iSeq K _) from (pi_seq (pv 2))) (blkOk_by (by rfl)) (fun _ _ _ _ _ => (pg_tup (n := 2) rfl (pgs_cons (pg_name (i := 3) sc.nd rfl (by first | exact Or.inl rfl | exact Or.inr rfl)) (pgs_cons (pg_name (i := 4) sc.nd rfl (by first | exact Or.inl rfl | exact Or.inr rfl)) pgs_nil)))) (fun _ _ _ _ _ => pts_nil) (fun _ _ _ _ _ => (pe_op (show OpR _ _ (rbMul K) from ob_mul) (pe_ix (show IxR _ (fun x y H Q => rIxL K x y H Q ∨ rIxT K x y H Q) from ix_any) (pv 0) (pv 3) (fun _ _ => rfl)) (pv 4)))) pa_nil)))))), ps_body h (ds := r_prices_of) inferInstance body_prices_of⟩
theorem sc_check_columns_and_goal : FnScope ["columns", "goal"] ["columns", "goal"] (defScope (top 37)) := ⟨rfl, rfl, rfl, by decide +kernel, rfl, by decide +kernel, by decide +kernel⟩
theorem ok_check_columns_and_goal (T : Top P w K mg) : Fn P w K mg base 5 "check_columns_and_goal" ["columns", "goal"] (PSp 2 w_check_columns_and_goal) := by
  obtain ⟨fd, F⟩ := T.fn 25 (x := "check_columns_and_goal") (st := (top 37)) rfl
  have sc := sc_check_columns_and_goal
  have tm : ∀ x, x ∈ frees → mg x = none := fun x hx => T.free x (mem_free hx)
  refine ⟨⟨fd, F.ok sc (fun vs H Q E h => h.len) (fun cdv A outer s H vs Q E hr h => ?d), F.bindsN fun _ _ _ _ _ _ us hl => match us, hl with | [_, _], _ => rfl⟩, T.glo "check_columns_and_goal" (mem_glo (by decide +kernel)), F.kp⟩
  exact ⟨_, PSs.nox (pss_cons (ps_if (pt_not (pt_val (pe_f (ok_are_rows T) hr rfl (pa_cons (pv 0) pa_nil)))) (pss_one ps_never) pss_nil) (pss_one (ps_if (pt_not (pt_val (pe_f (ok_is_row_beside T) (hr.mono (by decide)) rfl (pa_cons (pv 1) (pa_cons (pv 0) pa_nil))))) (pss_one ps_never) pss_nil))), ps_body h (ds := r_check_columns_and_goal) inferInstance body_check_columns_and_goal⟩
theorem sc_check_deal : FnScope ["columns", "goal"] ["columns", "goal"] (defScope (top 38)) := ⟨rfl, rfl, rfl, by decide +kernel, rfl, by decide +kernel, by decide +kernel⟩
theorem ok_check_deal (T : Top P w K mg) : Fn P w K mg base 6 "check_deal" ["columns", "goal"] (PSp 2 w_check_deal) := by
  obtain ⟨fd, F⟩ := T.fn 26 (x := "check_deal") (st := (top 38)) rfl
  have sc := sc_check_deal
  have tm : ∀ x, x ∈ frees → mg x = none := fun x hx => T.free x (mem_free hx)
  refine ⟨⟨fd, F.ok sc (fun vs H Q E h => h.len) (fun cdv A outer s H vs Q E hr h => ?d), F.bindsN fun _ _ _ _ _ _ us hl => match us, hl with | [_, _], _ => rfl⟩, T.glo "check_deal" (mem_glo (by decide +kernel)), F.kp⟩
  exact ⟨_, PSs.nox (pss_cons (ps_expr (pe_f (ok_check_columns_and_goal T) hr rfl (pa_cons (pv 0) (pa_cons (pv 1) pa_nil)))) (pss_one (ps_if (pt_cmpR op_gt (pe_callB (show CallR _ _ (rLenQ K) from cl_len) (by rfl) (tm "len" (by decide +kernel)) (by decide +kernel) (pa_cons (pv 0) pa_nil)) pe_int (nomark _)) (pss_one ps_never) pss_nil))), ps_body h (ds := r_check_deal) inferInstance body_check_deal⟩

end
end K04
set_option Elab.async false
set_option linter.all false
set_option maxRecDepth 100000
set_option maxHeartbeats 4000000
set_option synthInstance.maxHeartbeats 4000000
set_option synthInstance.maxSize 100000
namespace K04
open PySem PySem.Spec PyProof.Rows L2 RZ Lf
theorem ev_lc0 {env : Lf.Env} {di : DI} {dg : DG} {js vs : List Nat} {dt : DT} {de : DE} {xs : List D} (hi : EvI di env xs) (l : xs.length ≤ 100000) (hj : ∀ j ∈ js, j ∈ vs) (no : noOwnB env vs = true)
    (h : ∀ x ∈ xs, ∃ e2, Tg dg x (wipeE env vs) e2 ∧ EvT dt e2 false) : Ev (dOfN (dLcN di dg js dt de vs)) env (.lst []) := by
  have := ev_lc (de := de) (fun _ => []) hi l hj no fun x hx => let ⟨e2, h1, h2⟩ := h x hx; ⟨e2, h1, .inr ⟨rfl, h2⟩⟩
  have e : xs.flatMap (fun _ => ([] : List D)) = [] := by induction xs <;> simp_all
  rw [e] at this; exact this
theorem flat_nil : flat 1 (.lst []) := flat_lst fun x hx => by simp at hx
theorem rv_eqNil {C : D → Prop} (h : C (.bl true)) : dEqD (.lst []) (.lst []) C := rv_eq flat_nil.shp flat_nil.shp (by rw [dEq_nil]; rfl) h
theorem rv_neNil {C : D → Prop} (h : C (.bl false)) : dNeD (.lst []) (.lst []) C := rv_ne flat_nil.shp flat_nil.shp (by rw [dEq_nil]; rfl) h
def w_law_is_number : PW := fun ds C => ∃ x, ds = [x] ∧ C (.bl (isInt x))
def r_law_is_number : DS := (dRet (dAndV (dIsi "int" (dVar 0)) (dNotV (dIsi "bool" (dVar 0)))))
theorem body_law_is_number : ∀ (as : List D) (C : D → Prop), as.length = 1 → w_law_is_number as C → r_law_is_number (env0 (["thing"].length - 1) as) { nx := fun _ => C .non, rt := fun d _ => C d } := by
  rintro as C _ ⟨x, rfl, h⟩
  refine st_ret1 (ev_andV (ev_isi (ev_var (by rfl)) (kit_int x)) fun _ => ev_notV (ev_isi (ev_var (by rfl)) (kit_bool x))) ?_
  rw [k_int]; exact h
/-- a row of that length -/
def w_law_is_row : PW := fun ds C => ∃ r : List Int, ds = [rowD r, .int r.length] ∧ r.length ≤ 1000 ∧ C (.bl true)
def r_law_is_row : DS := (dSeq (dIfS (dOr (dNot (dTest (dIsi "tuple" (dVar 0)))) (dTest (dOp dNeD (dCB dLen (dCons (dVar 0) dNil)) (dVar 1)))) (dRet (dC (.bl false))) dNext) (dRet (dOp dEqD (dOfN (dLcN (diSeq (dVar 0)) (dgN 2) [2] (dNot (dTest (dCallP 1 w_law_is_number (dCons (dVar 2) dNil)))) (dC (.int 1)) [2])) (dLst dNil))))
theorem body_law_is_row : ∀ (as : List D) (C : D → Prop), as.length = 2 → w_law_is_row as C → r_law_is_row (env0 (["thing", "size", "item"].length - 2) as) { nx := fun _ => C .non, rt := fun d _ => C d } := by
  rintro as C _ ⟨r, rfl, hl, h⟩
  have l := rowD_len r
  refine st_seq (st_if1 (p := false) (et_or (p := false) (q := false) (et_not (p := true) (et_test (ev_isi (ev_var (by rfl)) (kit_tup _)))) fun _ => et_test (ev_op (ev_cb (ea_cons (ev_var (by rfl)) ea_nil) fun C k => cv_len rfl k) (ev_var (by rfl)) fun C k => rv_ne flat_int.shp flat_int.shp (by rw [dEq_int, List.length_map]; simp) k)) (fun e => nomatch e) fun _ => ?_)
  simp only [dNext]
  refine st_ret1 (d := .bl true) ?_ h
  refine ev_op (x := .lst []) (y := .lst []) ?_ (ev_lst ea_nil (by decide)) fun C k => rv_eqNil k
  refine ev_lc0 (ei_seq (ev_var (by rfl)) rfl) (by omega) (by simp) (by rfl) fun x hx => ⟨_, tg_n (by rfl), et_not (p := true) (et_test (ev_call (ea_cons (ev_var (by rfl)) ea_nil) rfl fun C k => ⟨x, rfl, by rw [mem_row hx]; exact k⟩))⟩
/-- small numbers -/
def Small (r : List Int) : Prop := ∀ x ∈ r, x.natAbs < 2 ^ 64
theorem zip_rows {r s : List Int} : zipD (r.map D.int) (s.map D.int) = List.zipWith (fun a b => .tup [.int a, .int b]) r s := by
  unfold zipD
  rw [List.zipWith_map]
theorem mem_zip {r s : List Int} {x : D} (h : x ∈ List.zipWith (fun a b => D.tup [.int a, .int b]) r s) : ∃ a b, a ∈ r ∧ b ∈ s ∧ x = .tup [.int a, .int b] := by
  induction r generalizing s with
  | nil => simp at h
  | cons a r ih =>
    cases s with
    | nil => simp at h
    | cons b s =>
      rw [List.zipWith_cons_cons] at h
      rcases List.mem_cons.mp h with rfl | h
      · exact ⟨a, b, by simp, by simp, rfl⟩
      · obtain ⟨a', b', h1, h2, e⟩ := ih h
        exact ⟨a', b', by simp [h1], by simp [h2], e⟩
def f2D (f : Int → Int → Int) : D → D
  | .tup [.int a, .int b] => .int (f a b)
  | y => y
theorem map_zip2 (f : Int → Int → Int) : ∀ r s : List Int, (List.zipWith (fun a b => D.tup [.int a, .int b]) r s).map (f2D f) = (List.zipWith f r s).map .int
  | [], _ => by simp
  | _ :: _, [] => by simp
  | a :: r, b :: s => by simp [f2D, map_zip2 f r s]
def w_law_dot : PW := fun ds C => ∃ (x y : D) (p q : Bool) (r s : List Int), ds = [x, y] ∧ x.seq? = some (p, r.map .int) ∧ y.seq? = some (q, s.map .int) ∧ r.length = s.length ∧ r.length ≤ 1000 ∧ (Small r ∨ Small s) ∧ C (.int (Sx.dot r.length (Sx.fn r) (Sx.fn s)))
def r_law_dot : DS := (dRet (dCB dSum (dCons (dOfN (dLcN (diZipS (dCons (dVar 0) (dCons (dVar 1) dNil))) (dgTup 2 (dgCons (dgN 2) (dgCons (dgN 3) dgNil))) [2, 3] dYes (dOp dbMul (dVar 2) (dVar 3)) [2, 3])) dNil)))
theorem zip_len (f : Int → Int → D) (r s : List Int) : (List.zipWith f r s).length ≤ r.length := by rw [List.length_zipWith]; omega
theorem body_law_dot : ∀ (as : List D) (C : D → Prop), as.length = 2 → w_law_dot as C → r_law_dot (env0 (["one", "other", "here", "there"].length - 2) as) { nx := fun _ => C .non, rt := fun d _ => C d } := by
  rintro as C _ ⟨x, y, p, q, r, s, rfl, hx, hy, hl, hm, hb, h⟩
  refine st_ret1 (d := .int (Sx.dot r.length (Sx.fn r) (Sx.fn s))) ?_ h
  have zl := zip_len (fun a b => D.tup [.int a, .int b]) r s
  refine ev_cb (ea_cons (ev_map (f2D (· * ·)) (by
      have := ei_zip (env := env0 (["one", "other", "here", "there"].length - 2) [x, y]) (p := p) (q := q) (xs := r.map .int) (ys := s.map .int) (ea_cons (ev_var (i := 0) (by rfl)) (ea_cons (ev_var (i := 1) (by rfl)) ea_nil)) hx hy
      rw [zip_rows] at this; exact this) (by omega) (by simp) (by rfl) fun z hz => ?_) ea_nil) fun C k => cv_sum (map_zip2 (· * ·) r s) (by rw [Sx.sum_zip _ _ _ hl]; exact k)
  obtain ⟨a, b, ha, hb', rfl⟩ := mem_zip hz
  have cm : CMul a b := by
    rcases hb with hb | hb
    · have := hb _ ha
      exact .inl ⟨by omega, by omega⟩
    · have := hb _ hb'
      exact .inr ⟨by omega, by omega⟩
  exact ⟨_, tg_two (by rfl) (by rfl), ev_op (ev_var (by rfl)) (ev_var (by rfl)) fun C k => rv_mul (.inl cm) rfl k⟩
def w_law_times : PW := fun ds C => ∃ (r : List Int) (m : Int), ds = [rowD r, .int m] ∧ r.length ≤ 1000 ∧ Small r ∧ C (rowD (r.map (· * m)))
def r_law_times : DS := (dRet (dCB dTupQ (dCons (dOfN (dLcN (diSeq (dVar 0)) (dgN 2) [2] dYes (dOp dbMul (dVar 2) (dVar 1)) [2])) dNil)))
theorem body_law_times : ∀ (as : List D) (C : D → Prop), as.length = 2 → w_law_times as C → r_law_times (env0 (["row", "number", "item"].length - 2) as) { nx := fun _ => C .non, rt := fun d _ => C d } := by
  rintro as C _ ⟨r, m, rfl, hl, hb, h⟩
  have l := rowD_len r
  refine st_ret1 (d := rowD (r.map (· * m))) ?_ h
  refine ev_cb (ea_cons (ev_map (fun y => match y with | .int v => .int (v * m) | _ => y) (ei_seq (ev_var (by rfl)) rfl) (by omega) (by simp) (by rfl) fun x hx => ⟨_, tg_n (by rfl), ?_⟩) ea_nil) fun C k => cv_tup rfl (by
    have : (r.map D.int).map (fun y => match y with | .int v => D.int (v * m) | _ => y) = (r.map (· * m)).map D.int := by simp
    rw [this]; exact k)
  obtain ⟨v, hv, rfl⟩ := List.mem_map.mp hx
  have := hb _ hv
  exact ev_op (ev_var (by rfl)) (ev_var (by rfl)) fun C k => rv_mul (.inl (.inl ⟨by omega, by omega⟩)) rfl k
def w_law_sum : PW := fun ds C => ∃ r s : List Int, ds = [rowD r, rowD s] ∧ r.length ≤ 1000 ∧ C (rowD (List.zipWith (· + ·) r s))
def r_law_sum : DS := (dRet (dCB dTupQ (dCons (dOfN (dLcN (diZipS (dCons (dVar 0) (dCons (dVar 1) dNil))) (dgTup 2 (dgCons (dgN 2) (dgCons (dgN 3) dgNil))) [2, 3] dYes (dOp dbAdd (dVar 2) (dVar 3)) [2, 3])) dNil)))
theorem body_law_sum : ∀ (as : List D) (C : D → Prop), as.length = 2 → w_law_sum as C → r_law_sum (env0 (["one", "other", "here", "there"].length - 2) as) { nx := fun _ => C .non, rt := fun d _ => C d } := by
  rintro as C _ ⟨r, s, rfl, hm, h⟩
  refine st_ret1 (d := rowD (List.zipWith (· + ·) r s)) ?_ h
  have zl := zip_len (fun a b => D.tup [.int a, .int b]) r s
  refine ev_cb (ea_cons (ev_map (f2D (· + ·)) (by
      have := ei_zip (env := env0 (["one", "other", "here", "there"].length - 2) [rowD r, rowD s]) (p := true) (q := true) (xs := r.map .int) (ys := s.map .int) (ea_cons (ev_var (i := 0) (by rfl)) (ea_cons (ev_var (i := 1) (by rfl)) ea_nil)) rfl rfl
      rw [zip_rows] at this; exact this) (by omega) (by simp) (by rfl) fun x hx => ?_) ea_nil) fun C k => cv_tup rfl (by rw [map_zip2]; exact k)
  obtain ⟨a, b, ha, hb', rfl⟩ := mem_zip hx
  exact ⟨_, tg_two (by rfl) (by rfl), ev_op (ev_var (by rfl)) (ev_var (by rfl)) fun C k => rv_add rfl k⟩
def w_law_divisor : PW := fun ds C => ∃ r : List Int, ds = [rowD r] ∧ r.length ≤ 1000 ∧ C (.int (Sx.gcdL r : Nat))
def r_law_divisor : DS := (dSeq (dAsg (dC (.int 0)) (dgN 1)) (dSeq (dFor (diSeq (dVar 0)) (dgN 2) (dSeq (dPar 3 4 (dCons (dVar 1) (dCons (dCB dAbs (dCons (dVar 2) dNil)) dNil))) (dSeq (dWhile (dTest (dOp dNeD (dVar 4) (dC (.int 0)))) (dPar 3 4 (dCons (dVar 4) (dCons (dOp (rIIc (fun _ j => 0 < j) fun i j => i % j) (dCB dInt1 (dCons (dVar 3) dNil)) (dCB dInt1 (dCons (dVar 4) dNil))) dNil)))) (dAsg (dVar 3) (dgN 1))))) (dRet (dVar 1))))
theorem body_law_divisor : ∀ (as : List D) (C : D → Prop), as.length = 1 → w_law_divisor as C → r_law_divisor (env0 (["numbers", "found", "number", "here", "there"].length - 1) as) { nx := fun _ => C .non, rt := fun d _ => C d } := by
  rintro as C _ ⟨r, rfl, hl, h⟩
  refine st_seq (st_asg1 ev_c (by rfl) ?_)
  refine st_seq (st_for (xs := r.map .int) (fun i e => ∃ t u v : Option D, e = [some (.d (rowD r)), some (.d (.int (Sx.gcdL (r.take i) : Nat))), t.map .d, u.map .d, v.map .d]) (ei_seq (ev_var (by rfl)) rfl) ⟨none, none, none, by rfl⟩ ?_ ?_)
  · rintro i y e hy ⟨t, u, v, rfl⟩
    obtain ⟨n, hn, rfl⟩ : ∃ n, r[i]? = some n ∧ y = .int n := by
      rw [List.getElem?_map] at hy
      cases q : r[i]? with
      | none => rw [q] at hy; cases hy
      | some n => rw [q] at hy; exact ⟨n, rfl, by simpa using hy.symm⟩
    refine ⟨_, tg_n (by cases t <;> rfl), ?_⟩
    refine st_seq (st_par (ea_cons (ev_var (by rfl)) (ea_cons (ev_cb (ea_cons (ev_var (by rfl)) ea_nil) fun C k => cv_abs k) ea_nil)) (by cases u <;> rfl) (by cases u <;> cases v <;> rfl) ?_)
    refine st_seq (st_while (m0 := n.natAbs) (fun m e => ∃ a b : Nat, Nat.gcd a b = Sx.gcdL (r.take (i + 1)) ∧ b = m ∧ e = [some (.d (rowD r)), some (.d (.int (Sx.gcdL (r.take i) : Nat))), some (.d (.int n)), some (.d (.int (a : Nat))), some (.d (.int (b : Nat)))]) ⟨Sx.gcdL (r.take i), n.natAbs, (gcd_take hn).symm, rfl, by rfl⟩ ?_)
    rintro m e ⟨a, b, hg, rfl, rfl⟩
    refine ⟨_, et_test (ev_op (ev_var (by rfl)) ev_c fun C k => rv_ne flat_int.shp flat_int.shp rfl k), fun e => ?_, fun e => ?_⟩
    · have e1 : ¬ (b : Int) = 0 := by simpa [dEq_int] using e
      refine st_par (ea_cons (ev_var (by rfl)) (ea_cons (ev_op (ev_cb (ea_cons (ev_var (by rfl)) ea_nil) fun C k => cv_int1 k) (ev_cb (ea_cons (ev_var (by rfl)) ea_nil) fun C k => cv_int1 k) fun C k => rv_iic (k := ((a % b : Nat) : Int)) (by omega) (by simp) k) ea_nil)) (by rfl) (by rfl) ⟨a % b, Nat.mod_lt _ (by omega), b, a % b, ?_, rfl, by rfl⟩
      rw [← hg, Nat.gcd_comm a b, Nat.gcd_comm b (a % b)]
      exact (Nat.gcd_rec b a).symm
    · have e1 : (b : Int) = 0 := by simpa [dEq_int] using e
      have e2 : b = 0 := by omega
      subst e2
      refine st_asg1 (ev_var (by rfl)) (by rfl) ⟨some (.int n), some (.int (a : Nat)), some (.int 0), ?_⟩
      rw [← hg, Nat.gcd_zero_right]
      rfl
  · rintro e ⟨t, u, v, rfl⟩
    refine st_ret1 (ev_var (by rfl)) ?_
    rw [List.length_map, List.take_length]
    exact h
section
variable {P : Program} {w : World} {K : PySem.W.Frag} {mg : Str → Option Value} {base : Heap}
theorem sc_law_is_number : FnScope ["thing"] ["thing"] (defScope (top 49)) := ⟨rfl, rfl, rfl, by decide +kernel, rfl, by decide +kernel, by decide +kernel⟩
theorem ok_law_is_number (T : Top P w K mg) : Fn P w K mg base 1 "_law_is_number" ["thing"] (PSp 1 w_law_is_number) := by
  obtain ⟨fd, F⟩ := T.fn 35 (x := "_law_is_number") (st := (top 49)) rfl
  have sc := sc_law_is_number
  have tm : ∀ x, x ∈ frees → mg x = none := fun x hx => T.free x (mem_free hx)
  refine ⟨⟨fd, F.ok sc (fun vs H Q E h => h.len) (fun cdv A outer s H vs Q E hr h => ?d), F.bindsN fun _ _ _ _ _ _ us hl => match us, hl with | [_], _ => rfl⟩, T.glo "_law_is_number" (mem_glo (by decide +kernel)), F.kp⟩
  exact ⟨_, PSs.nox (pss_one (ps_ret (pe_and (pe_callB (show CallR _ _ (rIsi K) from call_isi) (by rfl) (tm "isinstance" (by decide +kernel)) (by decide +kernel) (pa_cons (pv 0) (pa_cons (pe_bltn (v := .ty "int") (by rfl) (tm "int" (by decide +kernel)) (by decide +kernel) rfl) pa_nil))) (pe_one (pe_not (pe_callB (show CallR _ _ (rIsi K) from call_isi) (by rfl) (tm "isinstance" (by decide +kernel)) (by decide +kernel) (pa_cons (pv 0) (pa_cons (pe_bltn (v := .ty "bool") (by rfl) (tm "bool" (by decide +kernel)) (by decide +kernel) rfl) pa_nil)))))))), ps_body h (ds := r_law_is_number) inferInstance body_law_is_number⟩
theorem sc_law_is_row : FnScope ["thing", "size", "item"] ["thing", "size"] (defScope (top 50)) := ⟨rfl, rfl, rfl, by decide +kernel, rfl, by decide +kernel, by decide +kernel⟩
theorem ok_law_is_row (T : Top P w K mg) : Fn P w K mg base 2 "_law_is_row" ["thing", "size"] (PSp 2 w_law_is_row) := by
  obtain ⟨fd, F⟩ := T.fn 36 (x := "_law_is_row") (st := (top 50)) rfl
  have sc := sc_law_is_row
  have tm : ∀ x, x ∈ frees → mg x = none := fun x hx => T.free x (mem_free hx)
  refine ⟨⟨fd, F.ok sc (fun vs H Q E h => h.len) (fun cdv A outer s H vs Q E hr h => ?d), F.bindsN fun _ _ _ _ _ _ us hl => match us, hl with | [_, _], _ => rfl⟩, T.glo "_law_is_row" (mem_glo (by decide +kernel)), F.kp⟩
  exact ⟨_, PSs.nox (pss_cons (ps_if (PW.pt (pw_or (pt_not (pt_val (pe_callB (show CallR _ _ (rIsi K) from call_isi) (by rfl) (tm "isinstance" (by decide +kernel)) (by decide +kernel) (pa_cons (pv 0) (pa_cons (pe_bltn (v := .ty "tuple") (by rfl) (tm "tuple" (by decide +kernel)) (by decide +kernel) rfl) pa_nil))))) (pw_or1 (pt_cmpR (show OpR _ _ (rNeD K) from op_neD hr.units) (pe_callB (show CallR _ _ (rLenQ K) from cl_len) (by rfl) (tm "len" (by decide +kernel)) (by decide +kernel) (pa_cons (pv 0) pa_nil)) (pv 1) (nomark _))))) (pss_one (ps_ret pe_bl)) pss_nil) (pss_one (ps_ret (pe_cmpR (show OpR _ _ (rEqD K) from op_eqD hr.units) (pe_lc (own := [("item", 2)]) (g := (gName 2)) rfl sc.nd (pi_seq (pv 0)) (blkOk_by (N := ["thing", "size", "item"]) (sc := defScope (top 50)) (by decide +kernel)) (fun _ _ _ _ _ => (pg_name (i := 2) sc.nd rfl (by first | exact Or.inl rfl | exact Or.inr rfl))) (fun _ _ _ _ _ => (pts_one (pt_not (pt_val (pe_f (ok_law_is_number T) hr rfl (pa_cons (pv 2) pa_nil)))))) (fun _ _ _ _ _ => pe_int)) (pe_lst pa_nil) (nomark _))))), ps_body h (ds := r_law_is_row) inferInstance body_law_is_row⟩
theorem sc_law_dot : FnScope ["one", "other", "here", "there"] ["one", "other"] (defScope (top 51)) := ⟨rfl, rfl, rfl, by decide +kernel, rfl, by decide +kernel, by decide +kernel⟩
theorem ok_law_dot (T : Top P w K mg) : Fn P w K mg base 1 "_law_dot" ["one", "other"] (PSp 2 w_law_dot) := by
  obtain ⟨fd, F⟩ := T.fn 37 (x := "_law_dot") (st := (top 51)) rfl
  have sc := sc_law_dot
  have tm : ∀ x, x ∈ frees → mg x = none := fun x hx => T.free x (mem_free hx)
  refine ⟨⟨fd, F.ok sc (fun vs H Q E h => h.len) (fun cdv A outer s H vs Q E hr h => ?d), F.bindsN fun _ _ _ _ _ _ us hl => match us, hl with | [_, _], _ => rfl⟩, T.glo "_law_dot" (mem_glo (by decide +kernel)), F.kp⟩
  exact ⟨_, PSs.nox (pss_one (ps_ret (pe_callB (show CallR _ _ (rSum K) from cr_sum rfl) (by rfl) (tm "sum" (by decide +kernel)) (by decide +kernel) (pa_cons (pe_lc (own := [("here", 2), ("there", 3)]) (g := (gTup K 2 (gCons (gName 2) (gCons (gName 3) gNil)))) rfl sc.nd (pi_zipS rfl (tm "zip" (by decide +kernel)) (pa_cons (pv 0) (pa_cons (pv 1) pa_nil))) (blkOk_by (N := ["one", "other", "here", "there"]) (sc := defScope (top 51)) (by decide +kernel)) (fun _ _ _ _ _ => (pg_tup (n := 2) rfl (pgs_cons (pg_name (i := 2) sc.nd rfl (by first | exact Or.inl rfl | exact Or.inr rfl)) (pgs_cons (pg_name (i := 3) sc.nd rfl (by first | exact Or.inl rfl | exact Or.inr rfl)) pgs_nil)))) (fun _ _ _ _ _ => pts_nil) (fun _ _ _ _ _ => (pe_op (show OpR _ _ (rbMul K) from ob_mul) (pv 2) (pv 3)))) pa_nil)))), ps_body h (ds := r_law_dot) inferInstance body_law_dot⟩
theorem sc_law_times : FnScope ["row", "number", "item"] ["row", "number"] (defScope (top 53)) := ⟨rfl, rfl, rfl, by decide +kernel, rfl, by decide +kernel, by decide +kernel⟩
theorem ok_law_times (T : Top P w K mg) : Fn P w K mg base 1 "_law_times" ["row", "number"] (PSp 2 w_law_times) := by
  obtain ⟨fd, F⟩ := T.fn 39 (x := "_law_times") (st := (top 53)) rfl
  have sc := sc_law_times
  have tm : ∀ x, x ∈ frees → mg x = none := fun x hx => T.free x (mem_free hx)
  refine ⟨⟨fd, F.ok sc (fun vs H Q E h => h.len) (fun cdv A outer s H vs Q E hr h => ?d), F.bindsN fun _ _ _ _ _ _ us hl => match us, hl with | [_, _], _ => rfl⟩, T.glo "_law_times" (mem_glo (by decide +kernel)), F.kp⟩
  exact ⟨_, PSs.nox (pss_one (ps_ret (pe_callTy (show CallR _ _ (rTupQ K) from cl_tuple) (by rfl) (tm "tuple" (by decide +kernel)) (by decide +kernel) (pa_cons (pe_lc (own := [("item", 2)]) (g := (gName 2)) rfl sc.nd (pi_seq (pv 0)) (blkOk_by (N := ["row", "number", "item"]) (sc := defScope (top 53)) (by decide +kernel)) (fun _ _ _ _ _ => (pg_name (i := 2) sc.nd rfl (by first | exact Or.inl rfl | exact Or.inr rfl))) (fun _ _ _ _ _ => pts_nil) (fun _ _ _ _ _ => (pe_op (show OpR _ _ (rbMul K) from ob_mul) (pv 2) (pv 1)))) pa_nil)))), ps_body h (ds := r_law_times) inferInstance body_law_times⟩
theorem sc_law_sum : FnScope ["one", "other", "here", "there"] ["one", "other"] (defScope (top 54)) := ⟨rfl, rfl, rfl, by decide +kernel, rfl, by decide +kernel, by decide +kernel⟩
theorem ok_law_sum (T : Top P w K mg) : Fn P w K mg base 1 "_law_sum" ["one", "other"] (PSp 2 w_law_sum) := by
  obtain ⟨fd, F⟩ := T.fn 40 (x := "_law_sum") (st := (top 54)) rfl
  have sc := sc_law_sum
  have tm : ∀ x, x ∈ frees → mg x = none := fun x hx => T.free x (mem_free hx)
  refine ⟨⟨fd, F.ok sc (fun vs H Q E h => h.len) (fun cdv A outer s H vs Q E hr h => ?d), F.bindsN fun _ _ _ _ _ _ us hl => match us, hl with | [_, _], _ => rfl⟩, T.glo "_law_sum" (mem_glo (by decide +kernel)), F.kp⟩
  exact ⟨_, PSs.nox (pss_one (ps_ret (pe_callTy (show CallR _ _ (rTupQ K) from cl_tuple) (by rfl) (tm "tuple" (by decide +kernel)) (by decide +kernel) (pa_cons (pe_lc (own := [("here", 2), ("there", 3)]) (g := (gTup K 2 (gCons (gName 2) (gCons (gName 3) gNil)))) rfl sc.nd (pi_zipS rfl (tm "zip" (by decide +kernel)) (pa_cons (pv 0) (pa_cons (pv 1) pa_nil))) (blkOk_by (N := ["one", "other", "here", "there"]) (sc := defScope (top 54)) (by decide +kernel)) (fun _ _ _ _ _ => (pg_tup (n := 2) rfl (pgs_cons (pg_name (i := 2) sc.nd rfl (by first | exact Or.inl rfl | exact Or.inr rfl)) (pgs_cons (pg_name (i := 3) sc.nd rfl (by first | exact Or.inl rfl | exact Or.inr rfl)) pgs_nil)))) (fun _ _ _ _ _ => pts_nil) (fun _ _ _ _ _ => (pe_op (show OpR _ _ (rbAdd K) from ob_add) (pv 2) (pv 3)))) pa_nil)))), ps_body h (ds := r_law_sum) inferInstance body_law_sum⟩
theorem sc_law_divisor : FnScope ["numbers", "found", "number", "here", "there"] ["numbers"] (defScope (top 52)) := ⟨rfl, rfl, rfl, by decide +kernel, rfl, by decide +kernel, by decide +kernel⟩
theorem ok_law_divisor (T : Top P w K mg) : Fn P w K mg base 1 "_law_divisor" ["numbers"] (PSp 1 w_law_divisor) := by
  obtain ⟨fd, F⟩ := T.fn 38 (x := "_law_divisor") (st := (top 52)) rfl
  have sc := sc_law_divisor
  have tm : ∀ x, x ∈ frees → mg x = none := fun x hx => T.free x (mem_free hx)
  refine ⟨⟨fd, F.ok sc (fun vs H Q E h => h.len) (fun cdv A outer s H vs Q E hr h => ?d), F.bindsN fun _ _ _ _ _ _ us hl => match us, hl with | [_], _ => rfl⟩, T.glo "_law_divisor" (mem_glo (by decide +kernel)), F.kp⟩
  exact ⟨_, PSs.nox (pss_cons (ps_set (i := 1) sc.nd rfl (by first | exact Or.inl rfl | exact Or.inr rfl) pe_int) (pss_cons (ps_for PassesOwn.never rfl (pi_seq (pv 0)) (pg_name (i := 2) sc.nd rfl (by first | exact Or.inl rfl | exact Or.inr rfl)) (pss_cons (ps_par (by rfl) sc.nd rfl rfl (by decide) rfl rfl (pa_cons (pv 1) (pa_cons (pe_callB cl_abs (by rfl) (tm "abs" (by decide +kernel)) (by decide +kernel) (pa_cons (pv 2) pa_nil)) pa_nil)) (by rfl)) (pss_cons (ps_while PassesOwn.never (pt_cmpR (show OpR _ _ (rNeD K) from op_neD hr.units) (pv 4) pe_int (nomark _)) (pss_one (ps_par (by rfl) sc.nd rfl rfl (by decide) rfl rfl (pa_cons (pv 4) (pa_cons (pe_op op_mod (pe_callTy cl_int (by rfl) (tm "int" (by decide +kernel)) (by decide +kernel) (pa_cons (pv 3) pa_nil)) (pe_callTy cl_int (by rfl) (tm "int" (by decide +kernel)) (by decide +kernel) (pa_cons (pv 4) pa_nil))) pa_nil)) (by rfl)))) (pss_one (ps_set (i := 1) sc.nd rfl (by first | exact Or.inl rfl | exact Or.inr rfl) (pv 3)))))) (pss_one (ps_ret (pv 1))))), ps_body h (ds := r_law_divisor) inferInstance body_law_divisor⟩

end
end K04
set_option Elab.async false
set_option linter.all false
set_option maxRecDepth 100000
set_option maxHeartbeats 4000000
set_option synthInstance.maxHeartbeats 4000000
set_option synthInstance.maxSize 100000
namespace K04
open PySem PySem.Spec PyProof.Rows L2 RZ Lf
/-- n numbers -/
def mk (n : Nat) (f : Nat → Int) : List Int := (List.range n).map f
theorem mk_len (n : Nat) (f : Nat → Int) : (mk n f).length = n := by simp [mk]
theorem mk_congr {n : Nat} {f g : Nat → Int} (h : ∀ i, i < n → f i = g i) : mk n f = mk n g := List.map_congr_left fun i hi => h i (List.mem_range.mp hi)
theorem mk_fn {n : Nat} {r : List Int} (h : r.length = n) : r = mk n (Sx.fn r) := by subst h; exact Sx.list_fn r
theorem mk_add (n : Nat) (f g : Nat → Int) : List.zipWith (· + ·) (mk n f) (mk n g) = mk n fun i => f i + g i := by
  unfold mk
  rw [List.zipWith_map, List.zipWith_self]
theorem mk_mul (n : Nat) (f : Nat → Int) (c : Int) : (mk n f).map (· * c) = mk n fun i => f i * c := by
  unfold mk
  rw [List.map_map]; rfl
theorem rep_zero (n : Nat) : (List.replicate n [D.int 0]).flatten = (mk n fun _ => 0).map D.int := by
  rw [List.flatten_replicate_singleton]
  unfold mk
  rw [List.map_map]
  have e : (D.int ∘ fun _ => (0 : Int)) = fun _ : Nat => D.int 0 := rfl
  rw [e, List.map_const', List.length_range]
/-- the columns as rows without end -/
def colF (cols : List (List Int)) (j : Nat) : Sx.Vec := Sx.fn (cols.getD j [])
theorem colF_of {cols : List (List Int)} {j : Nat} {r : List Int} (h : cols[j]? = some r) : colF cols j = Sx.fn r := by
  unfold colF
  rw [List.getD_eq_getElem?_getD, h]; rfl
structure DealOk (n : Nat) (cols : List (List Int)) (goal : List Int) (s : Int) (cnt : List Int) : Prop where
  s1 : 1 ≤ s
  len : cnt.length = cols.length
  nn : ∀ c ∈ cnt, 0 ≤ c
  sum : ∀ i, i < n → Sx.sm cols.length (fun j => Sx.fn cnt j * colF cols j i) = s * Sx.fn goal i
  gcd : Sx.gcdL (s :: cnt) = 1
/-- columns and a goal of small numbers -/
structure CG (n : Nat) (cols : List (List Int)) (goal : List Int) : Prop where
  ok : Cols n cols
  glen : goal.length = n
  csm : ∀ r ∈ cols, Small r
  gsm : Small goal
def w_law_deal_ok : PW := fun ds C => ∃ p n cols goal s cnt, ds = [colsD p cols, rowD goal, .tup [.int s, rowD cnt]] ∧ CG n cols goal ∧ DealOk n cols goal s cnt ∧ C (.bl true)
def r_law_deal_ok : DS := (dSeq (dIfS (dOr (dNot (dTest (dIsi "tuple" (dVar 2)))) (dOr (dTest (dOp dNeD (dCB dLen (dCons (dVar 2) dNil)) (dC (.int 2)))) (dOr (dNot (dTest (dCallP 1 w_law_is_number (dCons (dOp dIx (dVar 2) (dC (.int 0))) dNil)))) (dTest (dOp (rIB fun i j => decide (i < j)) (dOp dIx (dVar 2) (dC (.int 0))) (dC (.int 1))))))) (dRet (dC (.bl false))) dNext) (dSeq (dIfS (dOr (dNot (dTest (dCallP 2 w_law_is_row (dCons (dOp dIx (dVar 2) (dC (.int 1))) (dCons (dCB dLen (dCons (dVar 0) dNil)) dNil))))) (dTest (dOp dNeD (dOfN (dLcN (diSeq (dOp dIx (dVar 2) (dC (.int 1)))) (dgN 6) [6] (dTest (dOp (rIB fun i j => decide (i < j)) (dVar 6) (dC (.int 0)))) (dC (.int 1)) [6])) (dLst dNil)))) (dRet (dC (.bl false))) dNext) (dSeq (dAsg (dOp dbMul (dTup (dCons (dC (.int 0)) dNil)) (dCB dLen (dCons (dVar 1) dNil))) (dgN 3)) (dSeq (dFor (diZipS (dCons (dVar 0) (dCons (dOp dIx (dVar 2) (dC (.int 1))) dNil))) (dgTup 2 (dgCons (dgN 4) (dgCons (dgN 5) dgNil))) (dAsg (dCallP 2 w_law_sum (dCons (dVar 3) (dCons (dCallP 2 w_law_times (dCons (dVar 4) (dCons (dVar 5) dNil))) dNil))) (dgN 3))) (dRet (dAndV (dOp dEqD (dVar 3) (dCallP 2 w_law_times (dCons (dVar 1) (dCons (dOp dIx (dVar 2) (dC (.int 0))) dNil)))) (dOp dEqD (dCallP 1 w_law_divisor (dCons (dOp dbAdd (dTup (dCons (dOp dIx (dVar 2) (dC (.int 0))) dNil)) (dOp dIx (dVar 2) (dC (.int 1)))) dNil)) (dC (.int 1)))))))))
theorem body_law_deal_ok : ∀ (as : List D) (C : D → Prop), as.length = 3 → w_law_deal_ok as C → r_law_deal_ok (env0 (["columns", "goal", "thing", "made_here", "column", "count", "item"].length - 3) as) { nx := fun _ => C .non, rt := fun d _ => C d } := by
  rintro as C _ ⟨p, n, cols, goal, s, cnt, rfl, cg, dk, h⟩
  have ok := cg.ok
  have glen := cg.glen
  have few := ok.few
  have n1 := ok.n1
  have n60 := ok.n60
  have cl := dk.len
  have s1 := dk.s1
  have lg := rowD_len goal
  have lc := rowD_len cnt
  have lcl : (cols.map rowD).length = cols.length := List.length_map ..
  have ix0 : ∀ env : Lf.Env, env[2]? = some (some (.d (.tup [.int s, rowD cnt]))) → Ev (dOp dIx (dVar 2) (dC (.int 0))) env (.int s) := fun env he => ev_op (ev_var he) ev_c fun C k => rv_ixT (xs := [.int s, rowD cnt]) (i := ((0 : Nat) : Int)) (atI_nat rfl) k
  have ix1 : ∀ env : Lf.Env, env[2]? = some (some (.d (.tup [.int s, rowD cnt]))) → Ev (dOp dIx (dVar 2) (dC (.int 1))) env (rowD cnt) := fun env he => ev_op (ev_var he) ev_c fun C k => rv_ixT (xs := [.int s, rowD cnt]) (i := ((1 : Nat) : Int)) (atI_nat rfl) k
  refine st_seq (st_if1 (p := false) (et_or (p := false) (q := false) (et_not (p := true) (et_test (ev_isi (ev_var (by rfl)) (kit_tup _)))) fun _ => et_or (p := false) (q := false) ?_ fun _ => et_or (p := false) (q := false) ?_ fun _ => ?_) (fun e => nomatch e) fun _ => ?_)
  · exact et_test (ev_op (ev_cb (ea_cons (ev_var (by rfl)) ea_nil) fun C k => cv_len rfl k) ev_c fun C k => rv_ne flat_int.shp flat_int.shp (by rw [dEq_int]; rfl) k)
  · exact et_not (p := true) (et_test (ev_call (ea_cons (ix0 _ (by rfl)) ea_nil) rfl fun C k => ⟨_, rfl, k⟩))
  · exact et_test (ev_op (ix0 _ (by rfl)) ev_c fun C k => rv_ib (decide_eq_false (by omega)) k)
  simp only [dNext]
  refine st_seq (st_if1 (p := false) (et_or (p := false) (q := false) ?_ fun _ => ?_) (fun e => nomatch e) fun _ => ?_)
  · refine et_not (p := true) (et_test (ev_call (ea_cons (ix1 _ (by rfl)) (ea_cons (ev_cb (ea_cons (ev_var (by rfl)) ea_nil) fun C k => cv_len cols_items k) ea_nil)) rfl fun C k => ⟨cnt, by rw [lcl, cl], by omega, k⟩))
  · refine et_test (ev_op (x := .lst []) (y := .lst []) ?_ (ev_lst ea_nil (by decide)) fun C k => rv_neNil k)
    refine ev_lc0 (ei_seq (ix1 _ (by rfl)) rfl) (by omega) (by simp) (by rfl) fun x hx => ?_
    obtain ⟨v, hv, rfl⟩ := List.mem_map.mp hx
    have := dk.nn v hv
    exact ⟨_, tg_n (by rfl), et_test (ev_op (ev_var (by rfl)) ev_c fun C k => rv_ib (decide_eq_false (by omega)) k)⟩
  simp only [dNext]
  refine st_seq (st_asg1 (d := rowD (mk n fun _ => 0)) (ev_op (ev_tup (ea_cons ev_c ea_nil) (by decide)) (ev_cb (ea_cons (ev_var (by rfl)) ea_nil) fun C k => cv_len (xs := goal.map .int) rfl k) fun C k => rv_mulT (by simp) (by omega) (by omega) (by decide) (by
    have e : ((goal.map D.int).length : Int).toNat = n := by omega
    rw [e, rep_zero]; exact k)) (by rfl) ?_)
  have hz : ∀ env : Lf.Env, env[0]? = some (some (.d (colsD p cols))) → env[2]? = some (some (.d (.tup [.int s, rowD cnt]))) → EvI (diZipS (dCons (dVar 0) (dCons (dOp dIx (dVar 2) (dC (.int 1))) dNil))) env (zipD (cols.map rowD) (cnt.map .int)) :=
    fun env h0 h2 => ei_zip (p := p) (q := true) (ea_cons (ev_var h0) (ea_cons (ix1 _ h2) ea_nil)) cols_seq rfl
  refine st_seq (st_for (fun i e => ∃ t u : Option D, e = [some (.d (colsD p cols)), some (.d (rowD goal)), some (.d (.tup [.int s, rowD cnt])), some (.d (rowD (mk n fun k => Sx.sm i fun j => Sx.fn cnt j * colF cols j k))), t.map .d, u.map .d, none]) (hz _ (by rfl) (by rfl)) ⟨none, none, by rfl⟩ ?_ ?_)
  · rintro i x e hx ⟨t, u, rfl⟩
    have zl : (zipD (cols.map rowD) (cnt.map D.int)).length = cols.length := by simp [zipD, cl]
    have hi : i < cols.length := by
      have := (List.getElem?_eq_some_iff.mp hx).1
      omega
    obtain ⟨r, hr⟩ : ∃ r, cols[i]? = some r := ⟨_, List.getElem?_eq_getElem hi⟩
    have hc : cnt[i]? = some (Sx.fn cnt i) := Sx.fn_at (by omega)
    have e1 : (zipD (cols.map rowD) (cnt.map D.int))[i]? = some (.tup [rowD r, .int (Sx.fn cnt i)]) := zipD_at (by rw [List.getElem?_map, hr]; rfl) (by rw [List.getElem?_map, hc]; rfl)
    rw [e1] at hx
    cases hx
    have hrl := ok.len r (List.mem_of_getElem? hr)
    have hrs := cg.csm r (List.mem_of_getElem? hr)
    refine ⟨_, tg_two (by cases t <;> rfl) (by cases t <;> cases u <;> rfl), ?_⟩
    refine st_asg1 (ev_call (ea_cons (ev_var (by rfl)) (ea_cons (ev_call (ea_cons (ev_var (by rfl)) (ea_cons (ev_var (by rfl)) ea_nil)) rfl fun C k => ⟨r, _, rfl, by omega, hrs, k⟩) ea_nil)) rfl fun C k => ⟨_, _, rfl, by rw [mk_len]; omega, k⟩) (by rfl) ⟨some (rowD r), some (.int (Sx.fn cnt i)), ?_⟩
    have e2 : List.zipWith (· + ·) (mk n fun k => Sx.sm i fun j => Sx.fn cnt j * colF cols j k) (r.map (· * Sx.fn cnt i)) = mk n fun k => Sx.sm (i + 1) fun j => Sx.fn cnt j * colF cols j k := by
      rw [mk_fn hrl, mk_mul, mk_add]
      refine mk_congr fun k _ => ?_
      show _ = (Sx.sm i fun j => Sx.fn cnt j * colF cols j k) + Sx.fn cnt i * colF cols i k
      rw [colF_of hr, Int.mul_comm]
    rw [e2]
    rfl
  · rintro e ⟨t, u, rfl⟩
    have zl : (zipD (cols.map rowD) (cnt.map D.int)).length = cols.length := by simp [zipD, cl]
    rw [zl]
    have e3 : (mk n fun k => Sx.sm cols.length fun j => Sx.fn cnt j * colF cols j k) = goal.map (· * s) := by
      rw [mk_congr dk.sum]
      conv => rhs; rw [mk_fn glen, mk_mul]
      exact mk_congr fun k _ => Int.mul_comm _ _
    rw [e3]
    dsimp only
    refine st_ret1 (d := .bl true) ?_ h
    refine ev_andV (p := true) (q := true) ?_ fun _ => ?_
    · exact ev_op (ev_var (by rfl)) (ev_call (ea_cons (ev_var (by rfl)) (ea_cons (ix0 _ (by rfl)) ea_nil)) rfl fun C k => ⟨goal, s, rfl, by omega, cg.gsm, k⟩) fun C k => rv_eq flat_row.shp flat_row.shp (dEq_refl flat_row) k
    · exact ev_op (ev_call (ea_cons (ev_op (ev_tup (ea_cons (ix0 _ (by rfl)) ea_nil) (by show 1 ≤ 100000; decide)) (ix1 _ (by rfl)) fun C k => rv_addT (by simp; omega) k) ea_nil) rfl fun C k => ⟨s :: cnt, rfl, by simp; omega, by rw [dk.gcd]; exact k⟩) ev_c fun C k => rv_eq flat_int.shp flat_int.shp (by rw [dEq_int]; rfl) k
/-- a dam -/
structure DamOk (n : Nat) (cols : List (List Int)) (goal : List Int) (w : List Int) : Prop where
  len : w.length = n
  col : ∀ r ∈ cols, Sx.dot n (Sx.fn w) (Sx.fn r) ≤ 0
  goal : 0 < Sx.dot n (Sx.fn w) (Sx.fn goal)
def w_law_dam_ok : PW := fun ds C => ∃ p n cols goal w, ds = [colsD p cols, rowD goal, rowD w] ∧ CG n cols goal ∧ DamOk n cols goal w ∧ C (.bl true)
def r_law_dam_ok : DS := (dSeq (dIfS (dOr (dNot (dTest (dCallP 2 w_law_is_row (dCons (dVar 2) (dCons (dCB dLen (dCons (dVar 1) dNil)) dNil))))) (dTest (dOp (rIB fun i j => decide (i ≤ j)) (dCallP 2 w_law_dot (dCons (dVar 2) (dCons (dVar 1) dNil))) (dC (.int 0))))) (dRet (dC (.bl false))) dNext) (dRet (dOp dEqD (dOfN (dLcN (diSeq (dVar 0)) (dgN 3) [3] (dTest (dOp (rIB fun i j => decide (j < i)) (dCallP 2 w_law_dot (dCons (dVar 2) (dCons (dVar 3) dNil))) (dC (.int 0)))) (dC (.int 1)) [3])) (dLst dNil))))
theorem body_law_dam_ok : ∀ (as : List D) (C : D → Prop), as.length = 3 → w_law_dam_ok as C → r_law_dam_ok (env0 (["columns", "goal", "thing", "column"].length - 3) as) { nx := fun _ => C .non, rt := fun d _ => C d } := by
  rintro as C _ ⟨p, n, cols, goal, w, rfl, cg, dk, h⟩
  have ok := cg.ok
  have glen := cg.glen
  have few := ok.few
  have n60 := ok.n60
  have wl := dk.len
  have pos := dk.goal
  have lcl : (cols.map rowD).length = cols.length := List.length_map ..
  refine st_seq (st_if1 (p := false) (et_or (p := false) (q := false) ?_ fun _ => ?_) (fun e => nomatch e) fun _ => ?_)
  · exact et_not (p := true) (et_test (ev_call (ea_cons (ev_var (by rfl)) (ea_cons (ev_cb (ea_cons (ev_var (by rfl)) ea_nil) fun C k => cv_len (xs := goal.map .int) rfl k) ea_nil)) rfl fun C k => ⟨w, by rw [List.length_map, glen, wl], by omega, k⟩))
  · exact et_test (ev_op (ev_call (ea_cons (ev_var (by rfl)) (ea_cons (ev_var (by rfl)) ea_nil)) rfl fun C k => ⟨_, _, true, true, w, goal, rfl, rfl, rfl, by omega, by omega, .inr cg.gsm, k⟩) ev_c fun C k => rv_ib (decide_eq_false (by rw [wl]; omega)) k)
  simp only [dNext]
  refine st_ret1 (d := .bl true) ?_ h
  refine ev_op (x := .lst []) (y := .lst []) ?_ (ev_lst ea_nil (by decide)) fun C k => rv_eqNil k
  refine ev_lc0 (ei_seq (ev_var (by rfl)) cols_items) (by omega) (by simp) (by rfl) fun x hx => ?_
  obtain ⟨r, hr, rfl⟩ := List.mem_map.mp hx
  have hrl := ok.len r hr
  have := dk.col r hr
  exact ⟨_, tg_n (by rfl), et_test (ev_op (ev_call (ea_cons (ev_var (by rfl)) (ea_cons (ev_var (by rfl)) ea_nil)) rfl fun C k => ⟨_, _, true, true, w, r, rfl, rfl, rfl, by omega, by omega, .inr (cg.csm r hr), k⟩) ev_c fun C k => rv_ib (decide_eq_false (by rw [wl]; omega)) k)⟩
section
variable {P : Program} {w : World} {K : PySem.W.Frag} {mg : Str → Option Value} {base : Heap}
theorem sc_law_deal_ok : FnScope ["columns", "goal", "thing", "made_here", "column", "count", "item"] ["columns", "goal", "thing"] (defScope (top 55)) := ⟨rfl, rfl, rfl, by decide +kernel, rfl, by decide +kernel, by decide +kernel⟩
theorem ok_law_deal_ok (T : Top P w K mg) : Fn P w K mg base 3 "_law_deal_ok" ["columns", "goal", "thing"] (PSp 3 w_law_deal_ok) := by
  obtain ⟨fd, F⟩ := T.fn 41 (x := "_law_deal_ok") (st := (top 55)) rfl
  have sc := sc_law_deal_ok
  have tm : ∀ x, x ∈ frees → mg x = none := fun x hx => T.free x (mem_free hx)
  refine ⟨⟨fd, F.ok sc (fun vs H Q E h => h.len) (fun cdv A outer s H vs Q E hr h => ?d), F.bindsN fun _ _ _ _ _ _ us hl => match us, hl with | [_, _, _], _ => rfl⟩, T.glo "_law_deal_ok" (mem_glo (by decide +kernel)), F.kp⟩
  exact ⟨_, PSs.nox (pss_cons (ps_if (PW.pt (pw_or (pt_not (pt_val (pe_callB (show CallR _ _ (rIsi K) from call_isi) (by rfl) (tm "isinstance" (by decide +kernel)) (by decide +kernel) (pa_cons (pv 2) (pa_cons (pe_bltn (v := .ty "tuple") (by rfl) (tm "tuple" (by decide +kernel)) (by decide +kernel) rfl) pa_nil))))) (pw_or (pt_cmpR (show OpR _ _ (rNeD K) from op_neD hr.units) (pe_callB (show CallR _ _ (rLenQ K) from cl_len) (by rfl) (tm "len" (by decide +kernel)) (by decide +kernel) (pa_cons (pv 2) pa_nil)) pe_int (nomark _)) (pw_or (pt_not (pt_val (pe_f (ok_law_is_number T) (hr.mono (by decide)) rfl (pa_cons (pe_ix (show IxR _ (fun x y H Q => rIxL K x y H Q ∨ rIxT K x y H Q) from ix_any) (pv 2) pe_int (fun _ _ => rfl)) pa_nil)))) (pw_or1 (pt_cmpR op_lt (pe_ix (show IxR _ (fun x y H Q => rIxL K x y H Q ∨ rIxT K x y H Q) from ix_any) (pv 2) pe_int (fun _ _ => rfl)) pe_int (nomark _))))))) (pss_one (ps_ret pe_bl)) pss_nil) (pss_cons (ps_if (PW.pt (pw_or (pt_not (pt_val (pe_f (ok_law_is_row T) hr rfl (pa_cons (pe_ix (show IxR _ (fun x y H Q => rIxL K x y H Q ∨ rIxT K x y H Q) from ix_any) (pv 2) pe_int (fun _ _ => rfl)) (pa_cons (pe_callB (show CallR _ _ (rLenQ K) from cl_len) (by rfl) (tm "len" (by decide +kernel)) (by decide +kernel) (pa_cons (pv 0) pa_nil)) pa_nil))))) (pw_or1 (pt_cmpR (show OpR _ _ (rNeD K) from op_neD hr.units) (pe_lc (own := [("item", 6)]) (g := (gName 6)) rfl sc.nd (pi_seq (pe_ix (show IxR _ (fun x y H Q => rIxL K x y H Q ∨ rIxT K x y H Q) from ix_any) (pv 2) pe_int (fun _ _ => rfl))) (blkOk_by (N := ["columns", "goal", "thing", "made_here", "column", "count", "item"]) (sc := defScope (top 55)) (by decide +kernel)) (fun _ _ _ _ _ => (pg_name (i := 6) sc.nd rfl (by first | exact Or.inl rfl | exact Or.inr rfl))) (fun _ _ _ _ _ => (pts_one (pt_cmpR op_lt (pv 6) pe_int (nomark _)))) (fun _ _ _ _ _ => pe_int)) (pe_lst pa_nil) (nomark _))))) (pss_one (ps_ret pe_bl)) pss_nil) (pss_cons (ps_set (i := 3) sc.nd rfl (by first | exact Or.inl rfl | exact Or.inr rfl) (pe_op (show OpR _ _ (rbMul K) from ob_mul) (pe_tup (pa_cons pe_int pa_nil)) (pe_callB (show CallR _ _ (rLenQ K) from cl_len) (by rfl) (tm "len" (by decide +kernel)) (by decide +kernel) (pa_cons (pv 1) pa_nil)))) (pss_cons (ps_for PassesOwn.never rfl (pi_zipS rfl (tm "zip" (by decide +kernel)) (pa_cons (pv 0) (pa_cons (pe_ix (show IxR _ (fun x y H Q => rIxL K x y H Q ∨ rIxT K x y H Q) from ix_any) (pv 2) pe_int (fun _ _ => rfl)) pa_nil))) (pg_tup (n := 2) rfl (pgs_cons (pg_name (i := 4) sc.nd rfl (by first | exact Or.inl rfl | exact Or.inr rfl)) (pgs_cons (pg_name (i := 5) sc.nd rfl (by first | exact Or.inl rfl | exact Or.inr rfl)) pgs_nil))) (pss_one (ps_set (i := 3) sc.nd rfl (by first | exact Or.inl rfl | exact Or.inr rfl) (pe_f (ok_law_sum T) (hr.mono (by decide)) rfl (pa_cons (pv 3) (pa_cons (pe_f (ok_law_times T) (hr.mono (by decide)) rfl (pa_cons (pv 4) (pa_cons (pv 5) pa_nil))) pa_nil)))))) (pss_one (ps_ret (pe_and (pe_cmpR (show OpR _ _ (rEqD K) from op_eqD hr.units) (pv 3) (pe_f (ok_law_times T) (hr.mono (by decide)) rfl (pa_cons (pv 1) (pa_cons (pe_ix (show IxR _ (fun x y H Q => rIxL K x y H Q ∨ rIxT K x y H Q) from ix_any) (pv 2) pe_int (fun _ _ => rfl)) pa_nil))) (nomark _)) (pe_one (pe_cmpR (show OpR _ _ (rEqD K) from op_eqD hr.units) (pe_f (ok_law_divisor T) (hr.mono (by decide)) rfl (pa_cons (pe_op (show OpR _ _ (rbAdd K) from ob_add) (pe_tup (pa_cons (pe_ix (show IxR _ (fun x y H Q => rIxL K x y H Q ∨ rIxT K x y H Q) from ix_any) (pv 2) pe_int (fun _ _ => rfl)) pa_nil)) (pe_ix (show IxR _ (fun x y H Q => rIxL K x y H Q ∨ rIxT K x y H Q) from ix_any) (pv 2) pe_int (fun _ _ => rfl))) pa_nil)) pe_int (nomark _)))))))))), ps_body h (ds := r_law_deal_ok) inferInstance body_law_deal_ok⟩
theorem sc_law_dam_ok : FnScope ["columns", "goal", "thing", "column"] ["columns", "goal", "thing"] (defScope (top 56)) := ⟨rfl, rfl, rfl, by decide +kernel, rfl, by decide +kernel, by decide +kernel⟩
theorem ok_law_dam_ok (T : Top P w K mg) : Fn P w K mg base 3 "_law_dam_ok" ["columns", "goal", "thing"] (PSp 3 w_law_dam_ok) := by
  obtain ⟨fd, F⟩ := T.fn 42 (x := "_law_dam_ok") (st := (top 56)) rfl
  have sc := sc_law_dam_ok
  have tm : ∀ x, x ∈ frees → mg x = none := fun x hx => T.free x (mem_free hx)
  refine ⟨⟨fd, F.ok sc (fun vs H Q E h => h.len) (fun cdv A outer s H vs Q E hr h => ?d), F.bindsN fun _ _ _ _ _ _ us hl => match us, hl with | [_, _, _], _ => rfl⟩, T.glo "_law_dam_ok" (mem_glo (by decide +kernel)), F.kp⟩
  exact ⟨_, PSs.nox (pss_cons (ps_if (PW.pt (pw_or (pt_not (pt_val (pe_f (ok_law_is_row T) hr rfl (pa_cons (pv 2) (pa_cons (pe_callB (show CallR _ _ (rLenQ K) from cl_len) (by rfl) (tm "len" (by decide +kernel)) (by decide +kernel) (pa_cons (pv 1) pa_nil)) pa_nil))))) (pw_or1 (pt_cmpR op_le (pe_f (ok_law_dot T) (hr.mono (by decide)) rfl (pa_cons (pv 2) (pa_cons (pv 1) pa_nil))) pe_int (nomark _))))) (pss_one (ps_ret pe_bl)) pss_nil) (pss_one (ps_ret (pe_cmpR (show OpR _ _ (rEqD K) from op_eqD hr.units) (pe_lc (own := [("column", 3)]) (g := (gName 3)) rfl sc.nd (pi_seq (pv 0)) (blkOk_by (N := ["columns", "goal", "thing", "column"]) (sc := defScope (top 56)) (by decide +kernel)) (fun _ _ _ _ _ => (pg_name (i := 3) sc.nd rfl (by first | exact Or.inl rfl | exact Or.inr rfl))) (fun _ _ _ _ _ => (pts_one (pt_cmpR op_gt (pe_f (ok_law_dot T) (hr.mono (by decide)) rfl (pa_cons (pv 2) (pa_cons (pv 3) pa_nil))) pe_int (nomark _)))) (fun _ _ _ _ _ => pe_int)) (pe_lst pa_nil) (nomark _))))), ps_body h (ds := r_law_dam_ok) inferInstance body_law_dam_ok⟩

end
end K04
set_option Elab.async false
set_option linter.all false
set_option maxRecDepth 100000
set_option maxHeartbeats 4000000
set_option synthInstance.maxHeartbeats 4000000
set_option synthInstance.maxSize 100000
namespace K04
open PySem PySem.Spec PyProof.Rows L2 RZ Lf
/-- the state of the search as the object holds it -/
def stB (n : Nat) (s : Sx.St) : BSt := { scale := s.d, levels := mk n s.L, members := (List.range n).map s.M, inverse := (List.range n).map fun k => mk n (s.N k) }
def lstD (f : List Int) : D := .lst (f.map .int)
theorem zip_range (n : Nat) (f g : Nat → D) : zipD ((List.range n).map f) ((List.range n).map g) = (List.range n).map fun k => .tup [f k, g k] := by
  unfold zipD
  rw [List.zipWith_map, List.zipWith_self]
theorem ea_lc {env : Lf.Env} {di : DI} {dg : DG} {js vs : List Nat} {dt : DT} {de : DE} {xs : List D} (g : D → List D) (hi : EvI di env xs) (l : xs.length ≤ 100000) (hj : ∀ j ∈ js, j ∈ vs) (no : noOwnB env vs = true)
    (h : ∀ x ∈ xs, ∃ e2, Tg dg x (wipeE env vs) e2 ∧ ((∃ y, g x = [y] ∧ EvT dt e2 true ∧ Ev de e2 y) ∨ (g x = [] ∧ EvT dt e2 false))) : EvA (dLcN di dg js dt de vs) env (xs.flatMap g) := fun C k => by
  refine ⟨hj, hi _ fun ys e => ?_⟩
  subst e
  refine ⟨l, no, fun i acc => acc = (List.take i ys).flatMap g, by simp, fun i acc hl hacc => ⟨fun x hx => ?_, fun e => ?_⟩⟩
  · obtain ⟨e2, ht, hc⟩ := h x (List.mem_of_getElem? hx)
    refine ht _ ?_
    rcases hc with ⟨y, hg, h1, h2⟩ | ⟨hg, h1⟩
    · refine h1 _ fun b eb => ?_
      subst eb
      simp only [if_true]
      refine h2 _ fun z ez => ⟨by first | rfl | trivial, ?_⟩
      subst ez
      rw [take_next hx, List.flatMap_append, hacc]
      simp [hg]
    · refine h1 _ fun b eb => ?_
      subst eb
      simp only [Bool.false_eq_true, if_false]
      refine ⟨by first | rfl | trivial, ?_⟩
      rw [take_next hx, List.flatMap_append, hacc]
      simp [hg]
  · subst e
    rw [hacc, List.take_length]
    exact k _ rfl
theorem ea_map {env : Lf.Env} {di : DI} {dg : DG} {js vs : List Nat} {de : DE} {xs : List D} (f : D → D) (hi : EvI di env xs) (l : xs.length ≤ 100000) (hj : ∀ j ∈ js, j ∈ vs) (no : noOwnB env vs = true)
    (h : ∀ x ∈ xs, ∃ e2, Tg dg x (wipeE env vs) e2 ∧ Ev de e2 (f x)) : EvA (dLcN di dg js dYes de vs) env (xs.map f) := by
  rw [← flatMap_one]
  exact ea_lc _ hi l hj no fun x hx => let ⟨e2, h1, h2⟩ := h x hx; ⟨e2, h1, .inl ⟨f x, rfl, et_yes, h2⟩⟩
/-- over a range: the k-th item gives f k -/
theorem ea_mapR {env : Lf.Env} {di : DI} {dg : DG} {js vs : List Nat} {de : DE} {n : Nat} {x f : Nat → D} (hi : EvI di env ((List.range n).map x)) (l : n ≤ 100000) (hj : ∀ j ∈ js, j ∈ vs) (no : noOwnB env vs = true)
    (h : ∀ k, k < n → ∃ e2, Tg dg (x k) (wipeE env vs) e2 ∧ Ev de e2 (f k)) : EvA (dLcN di dg js dYes de vs) env ((List.range n).map f) := fun C k => by
  refine ⟨hj, hi _ fun ys e => ?_⟩
  subst e
  refine ⟨by simp; exact l, no, fun i acc => i ≤ n ∧ acc = (List.range i).map f, ⟨Nat.zero_le _, by simp⟩, fun i acc hl hacc => ⟨fun y hy => ?_, fun e => ?_⟩⟩
  · have hi : i < n := by
      have := (List.getElem?_eq_some_iff.mp hy).1
      simpa using this
    have ey : y = x i := by
      rw [List.getElem?_map, List.getElem?_range hi] at hy
      simpa using hy.symm
    subst ey
    obtain ⟨e2, ht, hv⟩ := h i hi
    refine ht _ (et_yes _ fun b eb => ?_)
    subst eb
    simp only [if_true]
    refine hv _ fun z ez => ⟨by first | rfl | trivial, hi, ?_⟩
    subst ez
    rw [hacc.2, List.range_succ, List.map_append]
    rfl
  · have : i = n := by simpa using e
    subst this
    rw [hacc.2]
    exact k _ rfl
theorem ev_of {env : Lf.Env} {dn : DA} {ys : List D} (h : EvA dn env ys) : Ev (dOfN dn) env (.lst ys) := fun C k => h _ fun _ e => by subst e; exact k _ rfl
theorem mk_int (n : Nat) (f : Nat → Int) : (mk n f).map D.int = (List.range n).map fun k => .int (f k) := by unfold mk; rw [List.map_map]; rfl
theorem fl_scale (n : Nat) (s : Sx.St) : (stB n s).flds.lookup ("scale" : Str) = some (.int s.d) := rfl
theorem fl_levels (n : Nat) (s : Sx.St) : (stB n s).flds.lookup ("levels" : Str) = some (.lst ((List.range n).map fun k => .int (s.L k))) := by
  rw [← mk_int]; rfl
theorem fl_members (n : Nat) (s : Sx.St) : (stB n s).flds.lookup ("members" : Str) = some (.lst ((List.range n).map fun k => memD (s.M k))) := by
  have : ((List.range n).map s.M).map memD = (List.range n).map fun k => memD (s.M k) := by rw [List.map_map]; rfl
  rw [← this]; rfl
theorem fl_inverse (n : Nat) (s : Sx.St) : (stB n s).flds.lookup ("inverse" : Str) = some (.lst ((List.range n).map fun k => lstD (mk n (s.N k)))) := by
  have : ((List.range n).map fun k => mk n (s.N k)).map rowL = (List.range n).map fun k => lstD (mk n (s.N k)) := by rw [List.map_map]; rfl
  rw [← this]; rfl
theorem memD_isN (m : Option Nat) : (memD m).isN = decide (m = none) := by cases m <;> rfl
def v_Basis_lack : VW := fun fs ds C => ∃ n s, fs = (stB n s).flds ∧ n ≤ 60 ∧ ds = [] ∧ C (.int (s.lack n))
def r_Basis_lack (C : Addr) : DS := (dRet (dCB dSum (dCons (dOfN (dLcN (diZipS (dCons (dFld C 0 "members") (dCons (dFld C 0 "levels") dNil))) (dgTup 2 (dgCons (dgN 1) (dgCons (dgN 2) dgNil))) [1, 2] (dTest (dOp dIsN (dVar 1) (dC .non))) (dVar 2) [1, 2])) dNil)))
theorem lack_flat (M : Nat → Option Nat) (L : Nat → Int) (l : List Nat) : (l.map fun k => D.tup [memD (M k), .int (L k)]).flatMap (fun x => match x with | .tup [.non, .int v] => [D.int v] | _ => []) = (l.flatMap fun k => if M k = none then [L k] else []).map D.int ∧
    (l.flatMap fun k => if M k = none then [L k] else []).sum = (l.map fun k => if M k = none then L k else 0).sum := by
  induction l with
  | nil => exact ⟨rfl, rfl⟩
  | cons k l ih =>
    simp only [List.map_cons, List.flatMap_cons, List.sum_cons, List.sum_append, List.map_append]
    rw [ih.1, ih.2]
    cases h : M k with
    | none => simp [memD]
    | some j => simp [memD]
theorem body_Basis_lack (Cb : Addr) : ∀ (fs : Flds) (as : List D) (C : D → Prop), as.length + 1 = 1 → v_Basis_lack fs as C → r_Basis_lack Cb (some (.o (recO Cb fs)) :: env0 (["self", "member", "level"].length - 1) as) { nx := fun _ => C .non, rt := fun d _ => imm d ∧ C d } := by
  rintro fs as C _ ⟨n, s, rfl, hn, rfl, h⟩
  refine st_ret1 (d := .int (s.lack n)) ?_ ⟨trivial, h⟩
  have lf := lack_flat s.M s.L (List.range n)
  refine ev_cb (ea_cons (ev_of (ea_lc (fun x => match x with | .tup [.non, .int v] => [D.int v] | _ => []) (xs := (List.range n).map fun k => .tup [memD (s.M k), .int (s.L k)]) ?_ (by simp; omega) (by simp) (by rfl) fun x hx => ?_)) ea_nil) fun C k => cv_sum lf.1 (by rw [lf.2, Sx.sum_range]; exact k)
  · rw [← zip_range]
    exact ei_zip (p := false) (q := false) (ea_cons (ev_fld (by rfl) (fl_members n s)) (ea_cons (ev_fld (by rfl) (fl_levels n s)) ea_nil)) rfl rfl
  · obtain ⟨k, _, rfl⟩ := List.mem_map.mp hx
    refine ⟨_, tg_two (by rfl) (by rfl), ?_⟩
    have ht : ∀ b, decide (s.M k = none) = b → EvT (dTest (dOp dIsN (dVar 1) (dC .non))) [some (.o (recO Cb (stB n s).flds)), some (.d (memD (s.M k))), some (.d (.int (s.L k)))] b := fun b hb => et_test (ev_op (ev_var (by rfl)) ev_c fun C q => rv_isN (by rw [memD_isN]; exact hb) q)
    cases h : s.M k with
    | none => exact .inl ⟨.int (s.L k), rfl, by have := ht true (by simp [h]); rw [h] at this; exact this, ev_var (by rfl)⟩
    | some j => exact .inr ⟨rfl, by have := ht false (by simp [h]); rw [h] at this; exact this⟩
def v_Basis_priced : VW := fun fs ds C => ∃ n s, ∃ w : Nat → Int, fs = (stB n s).flds ∧ n ≤ 60 ∧ ds = [lstD (mk n w)] ∧ (∀ k, k < n → (w k).natAbs < 2 ^ 64) ∧ C (lstD (mk n fun i => Sx.sm n fun k => w k * s.N k i))
def r_Basis_priced (C : Addr) : DS := (dSeq (dAsgO (dNewRep (.int 0) (dCB dLen (dCons (dFld C 0 "levels") dNil))) 2) (dFor (diZipS (dCons (dVar 1) (dCons (dFld C 0 "inverse") dNil))) (dgTup 2 (dgCons (dgN 3) (dgCons (dgN 4) dgNil))) (dIfS (dTest (dOp dNeD (dVar 3) (dC (.int 0)))) (dFrz 2 (dAsgO (dLcN (diZipS (dCons (dVar 2) (dCons (dVar 4) dNil))) (dgTup 2 (dgCons (dgN 5) (dgCons (dgN 6) dgNil))) [5, 6] dYes (dOp dbAdd (dVar 5) (dOp dbMul (dVar 3) (dVar 6))) [5, 6]) 2)) dNext)))
theorem body_Basis_priced (Cb : Addr) : ∀ (fs : Flds) (as : List D) (C : D → Prop), as.length + 1 = 2 → v_Basis_priced fs as C → r_Basis_priced Cb (some (.o (recO Cb fs)) :: env0 (["self", "weights", "prices", "weight", "line", "price", "number"].length - 2) as) { nx := fun env' => ∃ ns : List Int, env'[2]? = some (some (.l (ns.map .int))) ∧ C (.lst (ns.map .int)), rt := fun _ _ => False } := by
  rintro fs as C _ ⟨n, s, w, rfl, hn, rfl, hw, h⟩
  refine st_seq (st_asgO (T := fun xs => xs = List.replicate n (.int 0)) (ea_rep (ev_cb (ea_cons (ev_fld (by rfl) (fl_levels n s)) ea_nil) fun C k => cv_len rfl (by rw [List.length_map, List.length_range]; exact k)) (by omega)) (by rfl) ?_)
  rintro xs rfl
  have z0 : List.replicate n (D.int 0) = (mk n fun i => Sx.sm 0 fun k => w k * s.N k i).map .int := by
    have := rep_zero n
    rw [flat_rep] at this
    exact this
  rw [z0]
  dsimp only
  refine st_for (xs := (List.range n).map fun k => .tup [.int (w k), lstD (mk n (s.N k))]) (fun i e => ∃ t u : Option D, i ≤ n ∧ e = [some (.o (recO Cb (stB n s).flds)), some (.d (lstD (mk n w))), some (.l ((mk n fun t => Sx.sm i fun k => w k * s.N k t).map .int)), t.map .d, u.map .d, none, none]) ?_ ⟨none, none, Nat.zero_le _, by rfl⟩ ?_ ?_
  · rw [← zip_range]
    exact ei_zip (p := false) (q := false) (ea_cons (ev_var (by rfl)) (ea_cons (ev_fld (by rfl) (fl_inverse n s)) ea_nil)) (by unfold lstD; rw [mk_int]; rfl) rfl
  · rintro i x e hx ⟨t, u, hi, rfl⟩
    have hlt : i < n := by
      have := (List.getElem?_eq_some_iff.mp hx).1
      simpa using this
    have ex : x = .tup [.int (w i), lstD (mk n (s.N i))] := by
      rw [List.getElem?_map, List.getElem?_range hlt] at hx
      simpa using hx.symm
    subst ex
    refine ⟨_, tg_two (by cases t <;> rfl) (by cases t <;> cases u <;> rfl), ?_⟩
    refine st_if1 (p := !decide (w i = 0)) (et_test (ev_op (ev_var (by rfl)) ev_c fun C k => rv_ne flat_int.shp flat_int.shp (by rw [dEq_int]) k)) (fun _ => ?_) fun hz => ?_
    · refine st_frz (xs := (mk n fun t => Sx.sm i fun k => w k * s.N k t).map .int) (by rfl) ?_
      refine st_asgO (T := fun xs => xs = (mk n fun t => Sx.sm (i + 1) fun k => w k * s.N k t).map .int) ?_ (by rfl) ?_
      · rw [mk_int n fun t => Sx.sm (i + 1) fun k => w k * s.N k t]
        refine ea_mapR (x := fun t => .tup [.int (Sx.sm i fun k => w k * s.N k t), .int (s.N i t)]) ?_ (by omega) (by simp) (by rfl) fun t ht => ⟨_, tg_two (by rfl) (by rfl), ?_⟩
        · rw [← zip_range]
          exact ei_zip (p := false) (q := false) (ea_cons (ev_var (by rfl)) (ea_cons (ev_var (by rfl)) ea_nil)) (by rw [mk_int]; rfl) (by unfold lstD; rw [mk_int]; rfl)
        · have := hw i hlt
          exact ev_op (ev_var (by rfl)) (ev_op (ev_var (by rfl)) (ev_var (by rfl)) fun C k => rv_mul (.inl (.inl ⟨by omega, by omega⟩)) rfl k) fun C k => rv_add rfl k
      · rintro xs rfl
        exact ⟨some (.int (w i)), some (lstD (mk n (s.N i))), hlt, by rfl⟩
    · have z : w i = 0 := by simpa using hz
      refine ⟨some (.int (w i)), some (lstD (mk n (s.N i))), hlt, ?_⟩
      have e : (mk n fun t => Sx.sm (i + 1) fun k => w k * s.N k t) = mk n fun t => Sx.sm i fun k => w k * s.N k t := mk_congr fun t _ => by
        show (Sx.sm i fun k => w k * s.N k t) + w i * s.N i t = _
        rw [z]; simp
      rw [e]
      rfl
  · rintro e ⟨t, u, _, rfl⟩
    rw [List.length_map, List.length_range]
    exact ⟨_, by rfl, h⟩
def v_Basis_stand_in_prices : VW := fun fs ds C => ∃ n s, fs = (stB n s).flds ∧ n ≤ 60 ∧ ds = [] ∧ C (lstD (mk n (s.price n)))
def r_Basis_stand_in_prices (C : Addr) : DA := (dCons (dOfN (dLcN (diSeq (dFld C 0 "members")) (dgN 1) [1] dYes (dIf (dTest (dOp dIsN (dVar 1) (dC .non))) (dC (.int 1)) (dC (.int 0))) [1])) dNil)
theorem body_Basis_stand_in_prices (Cb : Addr) : ∀ (fs : Flds) (as : List D) (C : D → Prop), as.length + 1 = 1 → v_Basis_stand_in_prices fs as C → fs.lookup ("priced" : Str) = none ∧ r_Basis_stand_in_prices Cb (some (.o (recO Cb fs)) :: env0 (["self", "member"].length - 1) as) fun ds env1 => env1[0]? = some (some (.o (recO Cb fs))) ∧ ds.length + 1 = 2 ∧ v_Basis_priced fs ds C := by
  rintro fs as C _ ⟨n, s, rfl, hn, rfl, h⟩
  refine ⟨rfl, ?_⟩
  refine ea_cons (ev_of (ea_mapR (x := fun k => memD (s.M k)) (f := fun k => .int (if s.M k = none then 1 else 0)) (ei_seq (ev_fld (by rfl) (fl_members n s)) rfl) (by omega) (by simp) (by rfl) fun k hk => ⟨_, tg_n (by rfl), ?_⟩)) ea_nil _ ?_
  · refine ev_if (p := decide (s.M k = none)) (et_test (ev_op (ev_var (by rfl)) ev_c fun C q => rv_isN (memD_isN _) q)) (fun e => ?_) fun e => ?_
    · rw [if_pos (of_decide_eq_true e)]; exact ev_c
    · rw [if_neg (of_decide_eq_false e)]; exact ev_c
  · rintro ds rfl
    refine ⟨by rfl, rfl, n, s, fun k => if s.M k = none then 1 else 0, rfl, hn, by unfold lstD; rw [mk_int], fun k _ => by dsimp only; split <;> decide, ?_⟩
    have e : (mk n fun i => Sx.sm n fun k => (if s.M k = none then 1 else 0) * s.N k i) = mk n (s.price n) := mk_congr fun i _ => Sx.sm_congr fun k _ => by split <;> simp
    rw [e]; exact h
def v_Basis_lifted : VW := fun fs ds C => ∃ n s, ∃ c : List Int, fs = (stB n s).flds ∧ n ≤ 60 ∧ ds = [spD c] ∧ c.length = n ∧ Small c ∧ C (lstD (mk n (s.lift n (Sx.fn c))))
def r_Basis_lifted (C : Addr) : DA := (dLcN (diSeq (dFld C 0 "inverse")) (dgN 2) [2] dYes (dCB dSum (dCons (dOfN (dLcN (diSeq (dVar 1)) (dgTup 2 (dgCons (dgN 3) (dgCons (dgN 4) dgNil))) [3, 4] dYes (dOp dbMul (dOp dIx (dVar 2) (dVar 3)) (dVar 4)) [3, 4])) dNil)) [2])
theorem mk_at {n k : Nat} {f : Nat → Int} (h : k < n) : Sx.fn (mk n f) k = f k := Sx.fn_range h
theorem body_Basis_lifted (Cb : Addr) : ∀ (fs : Flds) (as : List D) (C : D → Prop), as.length + 1 = 2 → v_Basis_lifted fs as C → r_Basis_lifted Cb (some (.o (recO Cb fs)) :: env0 (["self", "column", "line", "k", "number"].length - 2) as) fun xs _ => ∃ ns : List Int, xs = ns.map .int ∧ C (.lst (ns.map .int)) := by
  rintro fs as C _ ⟨n, s, c, rfl, hn, rfl, hc, hs, h⟩
  refine ea_mapR (x := fun k => lstD (mk n (s.N k))) (f := fun k => .int (s.lift n (Sx.fn c) k)) (ei_seq (ev_fld (by rfl) (fl_inverse n s)) rfl) (by omega) (by simp) (by rfl) (fun k hk => ⟨_, tg_n (by rfl), ?_⟩) _ ?_
  · have l := Sx.sp_len c 0
    refine ev_cb (ea_cons (ev_map (fun y => match y with | .tup [.int t, .int v] => .int (Sx.fn (mk n (s.N k)) t.toNat * v) | _ => y) (ei_seq (ev_var (by rfl)) rfl) (by rw [List.length_map]; omega) (by simp) (by rfl) fun y hy => ?_) ea_nil)
      fun C q => cv_sum (ns := (Sx.sp c 0).map fun q => Sx.fn (mk n (s.N k)) q.1 * q.2) (by simp) (by
        have e := Sx.sp_sum (Sx.fn (mk n (s.N k))) c 0
        simp only [Nat.zero_add] at e
        rw [e, hc]
        have e2 : (Sx.sm n fun i => Sx.fn (mk n (s.N k)) i * Sx.fn c i) = s.lift n (Sx.fn c) k := Sx.sm_congr fun i hi => by rw [mk_at hi]
        rw [e2]; exact q)
    obtain ⟨q, hq, rfl⟩ := List.mem_map.mp hy
    have ⟨_, q2, q3⟩ := Sx.sp_lt c 0 q hq
    have b := hs _ q3
    refine ⟨_, tg_two (by rfl) (by rfl), ?_⟩
    have hk : ((mk n (s.N k)).map D.int)[q.1]? = some (.int (Sx.fn (mk n (s.N k)) q.1)) := by rw [List.getElem?_map, Sx.fn_at (by rw [mk_len]; omega)]; rfl
    exact ev_op (ev_op (ev_var (by rfl)) (ev_var (by rfl)) fun C k => rv_ixL (atI_nat hk) k) (ev_var (by rfl)) fun C k => rv_mul (.inl (.inr ⟨by omega, by omega⟩)) (by simp) k
  · rintro xs rfl
    exact ⟨mk n (s.lift n (Sx.fn c)), (mk_int _ _).symm, h⟩
section
variable {P : Program} {w : World} {K : PySem.W.Frag} {mg : Str → Option Value} {base : Heap}
theorem sc_Basis_lack : FnScope ["self", "member", "level"] ["self"] (defScope (meth 20 4)) := ⟨rfl, rfl, rfl, by decide +kernel, rfl, by decide +kernel, by decide +kernel⟩
theorem ok_Basis_lack (T : Top P w K mg) : Mt P w K mg base 1 (He.ga K "Basis") "lack" ["self"] (VSp (He.ga K "Basis") 1 v_Basis_lack) := by
  obtain ⟨fd, F⟩ := T.says.def_ 53 (d := mdef "Basis" "lack" "Basis.lack" (meth 20 4)) rfl
  have sc := sc_Basis_lack
  have tm : ∀ x, x ∈ frees → mg x = none := fun x hx => T.free x (mem_free hx)
  refine ⟨fd, FunD.ok F sc (fun vs H Q E h => h.len) (fun cdv A outer s H vs Q E hr h => ?d), FunD.bindsN F fun _ _ _ _ _ _ us hl => match us, hl with | [_], _ => rfl⟩
  exact ⟨_, PSs.nox (pss_one (ps_ret (pe_callB (show CallR _ _ (rSum K) from cr_sum rfl) (by rfl) (tm "sum" (by decide +kernel)) (by decide +kernel) (pa_cons (pe_lc (own := [("member", 1), ("level", 2)]) (g := (gTup K 2 (gCons (gName 1) (gCons (gName 2) gNil)))) rfl sc.nd (pi_zipS rfl (tm "zip" (by decide +kernel)) (pa_cons (pe_fldC (clsB T) (noatB T "members" (by decide +kernel)) (pv 0)) (pa_cons (pe_fldC (clsB T) (noatB T "levels" (by decide +kernel)) (pv 0)) pa_nil))) (blkOk_by (N := ["self", "member", "level"]) (sc := defScope (meth 20 4)) (by decide +kernel)) (fun _ _ _ _ _ => (pg_tup (n := 2) rfl (pgs_cons (pg_name (i := 1) sc.nd rfl (by first | exact Or.inl rfl | exact Or.inr rfl)) (pgs_cons (pg_name (i := 2) sc.nd rfl (by first | exact Or.inl rfl | exact Or.inr rfl)) pgs_nil)))) (fun _ _ _ _ _ => (pts_one (pt_cmpR op_isN1 (pv 1) pe_non (nomark _)))) (fun _ _ _ _ _ => (pv 2))) pa_nil)))), vs_body h (dS := (r_Basis_lack (He.ga K "Basis"))) inferInstance (body_Basis_lack (He.ga K "Basis"))⟩
theorem sc_Basis_priced : FnScope ["self", "weights", "prices", "weight", "line", "price", "number"] ["self", "weights"] (defScope (meth 20 2)) := ⟨rfl, rfl, rfl, by decide +kernel, rfl, by decide +kernel, by decide +kernel⟩
theorem ok_Basis_priced (T : Top P w K mg) : Mt P w K mg base 1 (He.ga K "Basis") "priced" ["self", "weights"] (VSp (He.ga K "Basis") 2 v_Basis_priced) := by
  obtain ⟨fd, F⟩ := T.says.def_ 51 (d := mdef "Basis" "priced" "Basis.priced" (meth 20 2)) rfl
  have sc := sc_Basis_priced
  have tm : ∀ x, x ∈ frees → mg x = none := fun x hx => T.free x (mem_free hx)
  refine ⟨fd, FunD.ok F sc (fun vs H Q E h => h.len) (fun cdv A outer s H vs Q E hr h => ?d), FunD.bindsN F fun _ _ _ _ _ _ us hl => match us, hl with | [_, _], _ => rfl⟩
  exact ⟨_, PSs.nox (pss_cons (ps_own (ps_set (i := 2) sc.nd rfl (by first | exact Or.inl rfl | exact Or.inr rfl) (pe_repO (K := K) (pe_op (show OpR _ _ (rbMul K) from ob_mul) (pe_lst (pa_cons pe_int pa_nil)) (pe_callB (show CallR _ _ (rLenQ K) from cl_len) (by rfl) (tm "len" (by decide +kernel)) (by decide +kernel) (pa_cons (pe_fldC (clsB T) (noatB T "levels" (by decide +kernel)) (pv 0)) pa_nil)))))) (pss_cons (ps_for PassesOwn.never rfl (pi_zipS rfl (tm "zip" (by decide +kernel)) (pa_cons (pv 1) (pa_cons (pe_fldC (clsB T) (noatB T "inverse" (by decide +kernel)) (pv 0)) pa_nil))) (pg_tup (n := 2) rfl (pgs_cons (pg_name (i := 3) sc.nd rfl (by first | exact Or.inl rfl | exact Or.inr rfl)) (pgs_cons (pg_name (i := 4) sc.nd rfl (by first | exact Or.inl rfl | exact Or.inr rfl)) pgs_nil))) (pss_one (ps_if (pt_cmpR (show OpR _ _ (rNeD K) from op_neD hr.units) (pv 3) pe_int (nomark _)) (pss_frz 2 (pss_one (ps_own (ps_setLc (i := 2) (own := [("price", 5), ("number", 6)]) (g := (gTup K 2 (gCons (gName 5) (gCons (gName 6) gNil)))) rfl sc.nd rfl rfl (sw_true rfl rfl rfl (by decide +kernel)) (pi_zipS rfl (tm "zip" (by decide +kernel)) (pa_cons (pv 2) (pa_cons (pv 4) pa_nil))) (blkOk_by (N := ["self", "weights", "prices", "weight", "line", "price", "number"]) (sc := defScope (meth 20 2)) (by decide +kernel)) (fun _ _ _ _ _ => (pg_tup (n := 2) rfl (pgs_cons (pg_name (i := 5) sc.nd rfl (by first | exact Or.inl rfl | exact Or.inr rfl)) (pgs_cons (pg_name (i := 6) sc.nd rfl (by first | exact Or.inl rfl | exact Or.inr rfl)) pgs_nil)))) (fun _ _ _ _ _ => pts_nil) (fun _ _ _ _ _ => (pe_op (show OpR _ _ (rbAdd K) from ob_add) (pv 5) (pe_op (show OpR _ _ (rbMul K) from ob_mul) (pv 3) (pv 6)))))))) pss_nil))) (pss_one (ps_ret (pv 2))))), ls_body3 h (dS := (r_Basis_priced (He.ga K "Basis"))) inferInstance (body_Basis_priced (He.ga K "Basis"))⟩
theorem sc_Basis_stand_in_prices : FnScope ["self", "member"] ["self"] (defScope (meth 20 3)) := ⟨rfl, rfl, rfl, by decide +kernel, rfl, by decide +kernel, by decide +kernel⟩
theorem ok_Basis_stand_in_prices (T : Top P w K mg) : Mt P w K mg base 2 (He.ga K "Basis") "stand_in_prices" ["self"] (VSp (He.ga K "Basis") 1 v_Basis_stand_in_prices) := by
  obtain ⟨fd, F⟩ := T.says.def_ 52 (d := mdef "Basis" "stand_in_prices" "Basis.stand_in_prices" (meth 20 3)) rfl
  have sc := sc_Basis_stand_in_prices
  have tm : ∀ x, x ∈ frees → mg x = none := fun x hx => T.free x (mem_free hx)
  refine ⟨fd, FunD.ok F sc (fun vs H Q E h => h.len) (fun cdv A outer s H vs Q E hr h => ?d), FunD.bindsN F fun _ _ _ _ _ _ us hl => match us, hl with | [_], _ => rfl⟩
  exact ⟨_, PSs.nox (pss_one (ps_ret (pe_methV (pe_m (clsB T) (methB T "priced" (by decide +kernel)) (ok_Basis_priced T) hr (pv 0) (pa_cons (pe_lc (own := [("member", 1)]) (g := (gName 1)) rfl sc.nd (pi_seq (pe_fldC (clsB T) (noatB T "members" (by decide +kernel)) (pv 0))) (blkOk_by (N := ["self", "member"]) (sc := defScope (meth 20 3)) (by decide +kernel)) (fun _ _ _ _ _ => (pg_name (i := 1) sc.nd rfl (by first | exact Or.inl rfl | exact Or.inr rfl))) (fun _ _ _ _ _ => pts_nil) (fun _ _ _ _ _ => (pe_ifExp (pt_cmpR op_isN1 (pv 1) pe_non (nomark _)) pe_int pe_int))) pa_nil))))), vs_pass h (dA := (r_Basis_stand_in_prices (He.ga K "Basis"))) inferInstance (body_Basis_stand_in_prices (He.ga K "Basis"))⟩
theorem sc_Basis_lifted : FnScope ["self", "column", "line", "k", "number"] ["self", "column"] (defScope (meth 20 1)) := ⟨rfl, rfl, rfl, by decide +kernel, rfl, by decide +kernel, by decide +kernel⟩
theorem ok_Basis_lifted (T : Top P w K mg) : Mt P w K mg base 1 (He.ga K "Basis") "lifted" ["self", "column"] (VSp (He.ga K "Basis") 2 v_Basis_lifted) := by
  obtain ⟨fd, F⟩ := T.says.def_ 50 (d := mdef "Basis" "lifted" "Basis.lifted" (meth 20 1)) rfl
  have sc := sc_Basis_lifted
  have tm : ∀ x, x ∈ frees → mg x = none := fun x hx => T.free x (mem_free hx)
  refine ⟨fd, FunD.ok F sc (fun vs H Q E h => h.len) (fun cdv A outer s H vs Q E hr h => ?d), FunD.bindsN F fun _ _ _ _ _ _ us hl => match us, hl with | [_, _], _ => rfl⟩
  exact ⟨_, PSs.nox (pss_one (ps_ret (pe_lc (own := [("line", 2)]) (g := (gName 2)) rfl sc.nd (pi_seq (pe_fldC (clsB T) (noatB T "inverse" (by decide +kernel)) (pv 0))) (blkOk_by (N := ["self", "column", "line", "k", "number"]) (sc := defScope (meth 20 1)) (by decide +kernel)) (fun _ _ _ _ _ => (pg_name (i := 2) sc.nd rfl (by first | exact Or.inl rfl | exact Or.inr rfl))) (fun _ _ _ _ _ => pts_nil) (fun _ _ _ _ _ => (pe_callB (show CallR _ _ (rSum K) from cr_sum rfl) (by rfl) (tm "sum" (by decide +kernel)) (by decide +kernel) (pa_cons (pe_lc (own := [("k", 3), ("number", 4)]) (g := (gTup K 2 (gCons (gName 3) (gCons (gName 4) gNil)))) rfl sc.nd (show PI _ _ _ (iSeq K _) from (pi_seq (pv 1))) (blkOk_by (by rfl)) (fun _ _ _ _ _ => (pg_tup (n := 2) rfl (pgs_cons (pg_name (i := 3) sc.nd rfl (by first | exact Or.inl rfl | exact Or.inr rfl)) (pgs_cons (pg_name (i := 4) sc.nd rfl (by first | exact Or.inl rfl | exact Or.inr rfl)) pgs_nil)))) (fun _ _ _ _ _ => pts_nil) (fun _ _ _ _ _ => (pe_op (show OpR _ _ (rbMul K) from ob_mul) (pe_ix (show IxR _ (fun x y H Q => rIxL K x y H Q ∨ rIxT K x y H Q) from ix_any) (pv 2) (pv 3) (fun _ _ => rfl)) (pv 4)))) pa_nil)))))), ls_body h (dn := (r_Basis_lifted (He.ga K "Basis"))) inferInstance (body_Basis_lifted (He.ga K "Basis"))⟩

end
end K04
set_option Elab.async false
set_option linter.all false
set_option maxRecDepth 100000
set_option maxHeartbeats 4000000
set_option synthInstance.maxHeartbeats 4000000
set_option synthInstance.maxSize 100000
namespace K04
open PySem PySem.Spec PyProof.Rows L2 RZ Lf
/-- numbers of a state that the built-ins multiply and divide -/
structure Bnd (n : Nat) (s : Sx.St) : Prop where
  d : s.d.natAbs < 2 ^ 8000
  L : ∀ k, k < n → (s.L k).natAbs < 2 ^ 8000
  N : ∀ k, k < n → ∀ i, i < n → (s.N k i).natAbs < 2 ^ 8000
theorem wide2 {i j : Int} (h : i.natAbs < 2 ^ 8000) (g : j.natAbs < 2 ^ 8000) : CMulW i j := wide_mul h g (by decide) (by decide) (by decide)
open Classical in
def v_goes_first : VW := fun fs ds C => ∃ n s, ∃ lf : Nat → Int, ∃ one other : Nat, fs = (stB n s).flds ∧ n ≤ 60 ∧ one < n ∧ other < n ∧ Bnd n s ∧ (∀ k, k < n → (lf k).natAbs < 2 ^ 8000) ∧ ds = [lstD (mk n lf), .int one, .int other] ∧
  C (.bl (decide (Sx.rl (n + 1) (s.row one) (lf one) (s.row other) (lf other))))
def r_goes_first (C : Addr) : DS := (dSeq (dPar 4 5 (dCons (dOp dbMul (dOp dIx (dFld C 0 "levels") (dVar 2)) (dOp dIx (dVar 1) (dVar 3))) (dCons (dOp dbMul (dOp dIx (dFld C 0 "levels") (dVar 3)) (dOp dIx (dVar 1) (dVar 2))) dNil))) (dSeq (dIfS (dTest (dOp dNeD (dVar 4) (dVar 5))) (dRet (dOp (rIB fun i j => decide (i < j)) (dVar 4) (dVar 5))) dNext) (dSeq (dFor (diZipS (dCons (dOp dIx (dFld C 0 "inverse") (dVar 2)) (dCons (dOp dIx (dFld C 0 "inverse") (dVar 3)) dNil))) (dgTup 2 (dgCons (dgN 6) (dgCons (dgN 7) dgNil))) (dSeq (dPar 4 5 (dCons (dOp dbMul (dVar 6) (dOp dIx (dVar 1) (dVar 3))) (dCons (dOp dbMul (dVar 7) (dOp dIx (dVar 1) (dVar 2))) dNil))) (dIfS (dTest (dOp dNeD (dVar 4) (dVar 5))) (dRet (dOp (rIB fun i j => decide (i < j)) (dVar 4) (dVar 5))) dNext))) (dRet (dC (.bl false))))))
theorem ix_mk {n k : Nat} {f : Nat → Int} (h : k < n) {C : D → Prop} (q : C (.int (f k))) : dIx (lstD (mk n f)) (.int (k : Nat)) C := rv_ixL (d := .int (f k)) (atI_nat (by rw [mk_int, List.getElem?_map, List.getElem?_range h]; rfl)) q
theorem body_goes_first (Cb : Addr) : ∀ (fs : Flds) (as : List D) (C : D → Prop), as.length + 1 = 4 → v_goes_first fs as C → r_goes_first Cb (some (.o (recO Cb fs)) :: env0 (["basis", "lift", "one", "other", "here", "there", "left", "right"].length - 4) as) { nx := fun _ => C .non, rt := fun d _ => imm d ∧ C d } := by
  classical
  rintro fs as C _ ⟨n, s, lf, one, other, rfl, hn, h1, h2, hb, hl, rfl, h⟩
  have lev : ∀ (env : Lf.Env) (j k : Nat), env[0]? = some (some (.o (recO Cb (stB n s).flds))) → env[j]? = some (some (.d (.int (k : Nat)))) → k < n → Ev (dOp dIx (dFld Cb 0 "levels") (dVar j)) env (.int (s.L k)) := fun env j k e0 ej hk =>
    ev_op (ev_fld e0 (fl_levels n s)) (ev_var ej) fun C q => rv_ixL (d := .int (s.L k)) (atI_nat (by rw [List.getElem?_map, List.getElem?_range hk]; rfl)) q
  have lif : ∀ (env : Lf.Env) (j k : Nat), env[1]? = some (some (.d (lstD (mk n lf)))) → env[j]? = some (some (.d (.int (k : Nat)))) → k < n → Ev (dOp dIx (dVar 1) (dVar j)) env (.int (lf k)) := fun env j k e1 ej hk =>
    ev_op (ev_var e1) (ev_var ej) fun C q => ix_mk hk q
  have inv : ∀ (env : Lf.Env) (j k : Nat), env[0]? = some (some (.o (recO Cb (stB n s).flds))) → env[j]? = some (some (.d (.int (k : Nat)))) → k < n → Ev (dOp dIx (dFld Cb 0 "inverse") (dVar j)) env (lstD (mk n (s.N k))) := fun env j k e0 ej hk =>
    ev_op (ev_fld e0 (fl_inverse n s)) (ev_var ej) fun C q => rv_ixL (d := lstD (mk n (s.N k))) (atI_nat (by rw [List.getElem?_map, List.getElem?_range hk]; rfl)) q
  have fin : ∀ i, i < n + 1 → (∀ j, j < i → s.row one j * lf other = s.row other j * lf one) → s.row one i * lf other ≠ s.row other i * lf one →
      decide (Sx.rl (n + 1) (s.row one) (lf one) (s.row other) (lf other)) = decide (s.row one i * lf other < s.row other i * lf one) := fun i hi eq ne => by
    refine decide_eq_decide.mpr ⟨fun ⟨k, hk, lt, e⟩ => ?_, fun lt => ⟨i, hi, lt, eq⟩⟩
    rcases Nat.lt_trichotomy k i with q | q | q
    · have := eq k q; omega
    · subst q; exact lt
    · exact absurd (e i q) ne
  have non : (∀ j, j < n + 1 → s.row one j * lf other = s.row other j * lf one) → decide (Sx.rl (n + 1) (s.row one) (lf one) (s.row other) (lf other)) = false := fun eq => decide_eq_false fun ⟨k, hk, lt, e⟩ => by have := eq k hk; omega
  refine st_seq (st_par (x := .int (s.L one * lf other)) (y := .int (s.L other * lf one)) (ea_cons (ev_op (lev _ 2 one (by rfl) (by rfl) h1) (lif _ 3 other (by rfl) (by rfl) h2) fun C k => rv_mul (.inr (wide2 (hb.L one h1) (hl other h2))) rfl k)
    (ea_cons (ev_op (lev _ 3 other (by rfl) (by rfl) h2) (lif _ 2 one (by rfl) (by rfl) h1) fun C k => rv_mul (.inr (wide2 (hb.L other h2) (hl one h1))) rfl k) ea_nil)) (by rfl) (by rfl) ?_)
  refine st_seq (st_if1 (p := !decide (s.L one * lf other = s.L other * lf one)) (et_test (ev_op (ev_var (by rfl)) (ev_var (by rfl)) fun C k => rv_ne flat_int.shp flat_int.shp (by rw [dEq_int]) k)) (fun e => ?_) fun e => ?_)
  · refine st_ret1 (d := .bl (decide (s.L one * lf other < s.L other * lf one))) (ev_op (ev_var (by rfl)) (ev_var (by rfl)) fun C k => rv_ib rfl k) ⟨trivial, ?_⟩
    have := fin 0 (by omega) (fun j hj => by omega) (show ¬ s.L one * lf other = s.L other * lf one by simpa using e)
    rw [this] at h; exact h
  simp only [dNext]
  have eq0 : s.L one * lf other = s.L other * lf one := by simpa using e
  refine st_seq (st_for (xs := (List.range n).map fun t => .tup [.int (s.N one t), .int (s.N other t)]) (fun i e => ∃ a b c d : Option D, (∀ j, j < i + 1 → s.row one j * lf other = s.row other j * lf one) ∧
      e = [some (.o (recO Cb (stB n s).flds)), some (.d (lstD (mk n lf))), some (.d (.int (one : Nat))), some (.d (.int (other : Nat))), a.map .d, b.map .d, c.map .d, d.map .d]) ?_ ⟨some (.int (s.L one * lf other)), some (.int (s.L other * lf one)), none, none, fun j hj => by
        have : j = 0 := by omega
        subst this; exact eq0, by rfl⟩ ?_ ?_)
  · rw [← zip_range]
    exact ei_zip (p := false) (q := false) (ea_cons (inv _ 2 one (by rfl) (by rfl) h1) (ea_cons (inv _ 3 other (by rfl) (by rfl) h2) ea_nil)) (by unfold lstD; rw [mk_int]; rfl) (by unfold lstD; rw [mk_int]; rfl)
  · rintro i x e hx ⟨a, b, c, d, hq, rfl⟩
    have hlt : i < n := by
      have := (List.getElem?_eq_some_iff.mp hx).1
      simpa using this
    have ex : x = .tup [.int (s.N one i), .int (s.N other i)] := by
      rw [List.getElem?_map, List.getElem?_range hlt] at hx
      simpa using hx.symm
    subst ex
    refine ⟨_, tg_two (by cases c <;> rfl) (by cases c <;> cases d <;> rfl), ?_⟩
    refine st_seq (st_par (x := .int (s.N one i * lf other)) (y := .int (s.N other i * lf one)) (ea_cons (ev_op (ev_var (by rfl)) (lif _ 3 other (by rfl) (by rfl) h2) fun C k => rv_mul (.inr (wide2 (hb.N one h1 i hlt) (hl other h2))) rfl k)
      (ea_cons (ev_op (ev_var (by rfl)) (lif _ 2 one (by rfl) (by rfl) h1) fun C k => rv_mul (.inr (wide2 (hb.N other h2 i hlt) (hl one h1))) rfl k) ea_nil)) (by cases a <;> rfl) (by cases a <;> cases b <;> rfl) ?_)
    refine st_if1 (p := !decide (s.N one i * lf other = s.N other i * lf one)) (et_test (ev_op (ev_var (by rfl)) (ev_var (by rfl)) fun C k => rv_ne flat_int.shp flat_int.shp (by rw [dEq_int]) k)) (fun e => ?_) fun e => ?_
    · refine st_ret1 (d := .bl (decide (s.N one i * lf other < s.N other i * lf one))) (ev_op (ev_var (by rfl)) (ev_var (by rfl)) fun C k => rv_ib rfl k) ⟨trivial, ?_⟩
      have := fin (i + 1) (by omega) hq (show ¬ s.N one i * lf other = s.N other i * lf one by simpa using e)
      rw [this] at h; exact h
    · have eqi : s.N one i * lf other = s.N other i * lf one := by simpa using e
      refine ⟨some (.int (s.N one i * lf other)), some (.int (s.N other i * lf one)), some (.int (s.N one i)), some (.int (s.N other i)), fun j hj => ?_, by rfl⟩
      by_cases q : j = i + 1
      · subst q; exact eqi
      · exact hq j (by omega)
  · rintro e ⟨a, b, c, d, hq, rfl⟩
    rw [List.length_map, List.length_range] at hq
    refine st_ret1 ev_c ⟨trivial, ?_⟩
    rw [non hq] at h; exact h
section
variable {P : Program} {w : World} {K : PySem.W.Frag} {mg : Str → Option Value} {base : Heap}
theorem sc_goes_first : FnScope ["basis", "lift", "one", "other", "here", "there", "left", "right"] ["basis", "lift", "one", "other"] (defScope (top 24)) := ⟨rfl, rfl, rfl, by decide +kernel, rfl, by decide +kernel, by decide +kernel⟩
theorem ok_goes_first (T : Top P w K mg) : Fn P w K mg base 1 "goes_first" ["basis", "lift", "one", "other"] (VSp (He.ga K "Basis") 4 v_goes_first) := by
  obtain ⟨fd, F⟩ := T.fn 13 (x := "goes_first") (st := (top 24)) rfl
  have sc := sc_goes_first
  have tm : ∀ x, x ∈ frees → mg x = none := fun x hx => T.free x (mem_free hx)
  refine ⟨⟨fd, F.ok sc (fun vs H Q E h => h.len) (fun cdv A outer s H vs Q E hr h => ?d), F.bindsN fun _ _ _ _ _ _ us hl => match us, hl with | [_, _, _, _], _ => rfl⟩, T.glo "goes_first" (mem_glo (by decide +kernel)), F.kp⟩
  exact ⟨_, PSs.nox (pss_cons (ps_par (by rfl) sc.nd rfl rfl (by decide) rfl rfl (pa_cons (pe_op (show OpR _ _ (rbMul K) from ob_mul) (pe_ix (show IxR _ (fun x y H Q => rIxL K x y H Q ∨ rIxT K x y H Q) from ix_any) (pe_fldC (clsB T) (noatB T "levels" (by decide +kernel)) (pv 0)) (pv 2) (fun _ _ => rfl)) (pe_ix (show IxR _ (fun x y H Q => rIxL K x y H Q ∨ rIxT K x y H Q) from ix_any) (pv 1) (pv 3) (fun _ _ => rfl))) (pa_cons (pe_op (show OpR _ _ (rbMul K) from ob_mul) (pe_ix (show IxR _ (fun x y H Q => rIxL K x y H Q ∨ rIxT K x y H Q) from ix_any) (pe_fldC (clsB T) (noatB T "levels" (by decide +kernel)) (pv 0)) (pv 3) (fun _ _ => rfl)) (pe_ix (show IxR _ (fun x y H Q => rIxL K x y H Q ∨ rIxT K x y H Q) from ix_any) (pv 1) (pv 2) (fun _ _ => rfl))) pa_nil)) (by rfl)) (pss_cons (ps_if (pt_cmpR (show OpR _ _ (rNeD K) from op_neD hr.units) (pv 4) (pv 5) (nomark _)) (pss_one (ps_ret (pe_cmpR op_lt (pv 4) (pv 5) (nomark _)))) pss_nil) (pss_cons (ps_for PassesOwn.never rfl (pi_zipS rfl (tm "zip" (by decide +kernel)) (pa_cons (pe_ix (show IxR _ (fun x y H Q => rIxL K x y H Q ∨ rIxT K x y H Q) from ix_any) (pe_fldC (clsB T) (noatB T "inverse" (by decide +kernel)) (pv 0)) (pv 2) (fun _ _ => rfl)) (pa_cons (pe_ix (show IxR _ (fun x y H Q => rIxL K x y H Q ∨ rIxT K x y H Q) from ix_any) (pe_fldC (clsB T) (noatB T "inverse" (by decide +kernel)) (pv 0)) (pv 3) (fun _ _ => rfl)) pa_nil))) (pg_tup (n := 2) rfl (pgs_cons (pg_name (i := 6) sc.nd rfl (by first | exact Or.inl rfl | exact Or.inr rfl)) (pgs_cons (pg_name (i := 7) sc.nd rfl (by first | exact Or.inl rfl | exact Or.inr rfl)) pgs_nil))) (pss_cons (ps_par (by rfl) sc.nd rfl rfl (by decide) rfl rfl (pa_cons (pe_op (show OpR _ _ (rbMul K) from ob_mul) (pv 6) (pe_ix (show IxR _ (fun x y H Q => rIxL K x y H Q ∨ rIxT K x y H Q) from ix_any) (pv 1) (pv 3) (fun _ _ => rfl))) (pa_cons (pe_op (show OpR _ _ (rbMul K) from ob_mul) (pv 7) (pe_ix (show IxR _ (fun x y H Q => rIxL K x y H Q ∨ rIxT K x y H Q) from ix_any) (pv 1) (pv 2) (fun _ _ => rfl))) pa_nil)) (by rfl)) (pss_one (ps_if (pt_cmpR (show OpR _ _ (rNeD K) from op_neD hr.units) (pv 4) (pv 5) (nomark _)) (pss_one (ps_ret (pe_cmpR op_lt (pv 4) (pv 5) (nomark _)))) pss_nil)))) (pss_one (ps_ret pe_bl))))), vs_body h (dS := (r_goes_first (He.ga K "Basis"))) inferInstance (body_goes_first (He.ga K "Basis"))⟩

end
end K04
set_option Elab.async false
set_option linter.all false
set_option maxRecDepth 100000
set_option maxHeartbeats 4000000
set_option synthInstance.maxHeartbeats 4000000
set_option synthInstance.maxSize 100000
namespace K04
open PySem PySem.Spec PyProof.Rows L2 RZ Lf
def v_leaving : VW := fun fs ds C => ∃ n s, ∃ lf : Nat → Int, fs = (stB n s).flds ∧ n ≤ 60 ∧ Bnd n s ∧ (∀ k, k < n → (lf k).natAbs < 2 ^ 8000) ∧ ds = [lstD (mk n lf)] ∧ C (memD (Sx.pk n s lf n))
def r_leaving (C : Addr) : DS := (dSeq (dAsg (dC .non) (dgN 2)) (dSeq (dFor (diEnumS (dCons (dVar 1) dNil)) (dgTup 2 (dgCons (dgN 3) (dgCons (dgN 4) dgNil))) (dIfS (dAnd (dTest (dOp (rIB fun i j => decide (j < i)) (dVar 4) (dC (.int 0)))) (dOr (dTest (dOp dIsN (dVar 2) (dC .non))) (dTest (dCallV C 4 v_goes_first 0 (dCons (dVar 1) (dCons (dVar 3) (dCons (dVar 2) dNil))))))) (dAsg (dVar 3) (dgN 2)) dNext)) (dRet (dVar 2))))
theorem imm_mem (m : Option Nat) : imm (memD m) := by cases m <;> trivial
theorem body_leaving (Cb : Addr) : ∀ (fs : Flds) (as : List D) (C : D → Prop), as.length + 1 = 2 → v_leaving fs as C → r_leaving Cb (some (.o (recO Cb fs)) :: env0 (["basis", "lift", "best", "k", "number"].length - 2) as) { nx := fun _ => C .non, rt := fun d _ => imm d ∧ C d } := by
  classical
  rintro fs as C _ ⟨n, s, lf, rfl, hn, hb, hl, rfl, h⟩
  refine st_seq (st_asg1 ev_c (by rfl) ?_)
  refine st_seq (st_for (xs := enumD ((mk n lf).map .int)) (fun i e => ∃ t u : Option D, i ≤ n ∧ e = [some (.o (recO Cb (stB n s).flds)), some (.d (lstD (mk n lf))), some (.d (memD (Sx.pk n s lf i))), t.map .d, u.map .d])
    (ei_enum (p := false) (ea_cons (ev_var (by rfl)) ea_nil) rfl) ⟨none, none, Nat.zero_le _, by rfl⟩ ?_ ?_)
  · rintro i x e hx ⟨t, u, _, rfl⟩
    have hlt : i < n := by
      have := (List.getElem?_eq_some_iff.mp hx).1
      rw [enumD_len, List.length_map, mk_len] at this
      exact this
    have e1 : (enumD ((mk n lf).map .int))[i]? = some (.tup [.int (i : Nat), .int (lf i)]) := enumD_at (by rw [mk_int, List.getElem?_map, List.getElem?_range hlt]; rfl)
    rw [e1] at hx
    cases hx
    refine ⟨_, tg_two (by cases t <;> rfl) (by cases t <;> cases u <;> rfl), ?_⟩
    have up : ∀ m, Sx.pk n s lf (i + 1) = m → ∃ t u : Option D, i + 1 ≤ n ∧ ([some (.o (recO Cb (stB n s).flds)), some (.d (lstD (mk n lf))), some (.d (memD m)), some (.d (.int (i : Nat))), some (.d (.int (lf i)))] : Lf.Env) = [some (.o (recO Cb (stB n s).flds)), some (.d (lstD (mk n lf))), some (.d (memD (Sx.pk n s lf (i + 1)))), t.map .d, u.map .d] := fun m hm =>
      ⟨some (.int (i : Nat)), some (.int (lf i)), hlt, by rw [hm]; rfl⟩
    have pe : Sx.pk n s lf (i + 1) = if 0 < lf i ∧ (Sx.pk n s lf i = none ∨ ∃ b, Sx.pk n s lf i = some b ∧ Sx.rl (n + 1) (s.row i) (lf i) (s.row b) (lf b)) then some i else Sx.pk n s lf i := rfl
    refine st_if1 (p := decide (0 < lf i ∧ (Sx.pk n s lf i = none ∨ ∃ b, Sx.pk n s lf i = some b ∧ Sx.rl (n + 1) (s.row i) (lf i) (s.row b) (lf b)))) ?_ (fun e => ?_) fun e => ?_
    · have t1 : ∀ b, Sx.pk n s lf i = b → ∀ p q, decide (0 < lf i) = p → (p = true → EvT (dOr (dTest (dOp dIsN (dVar 2) (dC .non))) (dTest (dCallV Cb 4 v_goes_first 0 (dCons (dVar 1) (dCons (dVar 3) (dCons (dVar 2) dNil)))))) [some (.o (recO Cb (stB n s).flds)), some (.d (lstD (mk n lf))), some (.d (memD b)), some (.d (.int (i : Nat))), some (.d (.int (lf i)))] q) →
          EvT (dAnd (dTest (dOp (rIB fun i j => decide (j < i)) (dVar 4) (dC (.int 0)))) (dOr (dTest (dOp dIsN (dVar 2) (dC .non))) (dTest (dCallV Cb 4 v_goes_first 0 (dCons (dVar 1) (dCons (dVar 3) (dCons (dVar 2) dNil))))))) [some (.o (recO Cb (stB n s).flds)), some (.d (lstD (mk n lf))), some (.d (memD b)), some (.d (.int (i : Nat))), some (.d (.int (lf i)))] (p && q) := fun b _ p q hp hq =>
        et_and (et_test (ev_op (ev_var (by rfl)) ev_c fun C k => rv_ib hp k)) hq
      cases hb0 : Sx.pk n s lf i with
      | none =>
        have := t1 none hb0 _ true rfl fun _ => et_or (p := true) (q := true) (et_test (ev_op (ev_var (by rfl)) ev_c fun C k => rv_isN (x := memD none) (b := true) rfl k)) fun e => nomatch e
        have ee : decide (0 < lf i ∧ ((none : Option Nat) = none ∨ ∃ b, (none : Option Nat) = some b ∧ Sx.rl (n + 1) (s.row i) (lf i) (s.row b) (lf b))) = (decide (0 < lf i) && true) := by simp
        rw [ee]; exact this
      | some b =>
        have hbn : b < n := by have := (Sx.pk_some hb0).1; omega
        have := t1 (some b) hb0 _ (decide (Sx.rl (n + 1) (s.row i) (lf i) (s.row b) (lf b))) rfl fun _ => et_or (p := false) (et_test (ev_op (ev_var (by rfl)) ev_c fun C k => rv_isN (x := memD (some b)) (b := false) rfl k)) fun _ =>
          et_test (es_callV (by rfl) asRec_rec (ea_cons (ev_var (by rfl)) (ea_cons (ev_var (by rfl)) (ea_cons (ev_var (by rfl)) ea_nil))) rfl fun K k => ⟨n, s, lf, i, b, rfl, hn, hlt, hbn, hb, hl, rfl, k _ rfl⟩)
        have ee : decide (0 < lf i ∧ (some b = none ∨ ∃ b', some b = some b' ∧ Sx.rl (n + 1) (s.row i) (lf i) (s.row b') (lf b'))) = (decide (0 < lf i) && decide (Sx.rl (n + 1) (s.row i) (lf i) (s.row b) (lf b))) := by
          by_cases h1 : 0 < lf i <;> by_cases h2 : Sx.rl (n + 1) (s.row i) (lf i) (s.row b) (lf b) <;> simp [h1, h2]
        rw [ee]; exact this
    · refine st_asg1 (d := memD (some i)) (ev_var (by rfl)) (by rfl) ?_
      exact up _ (by rw [pe, if_pos (of_decide_eq_true e)])
    · exact up _ (by rw [pe, if_neg (of_decide_eq_false e)])
  · rintro e ⟨t, u, _, rfl⟩
    rw [enumD_len, List.length_map, mk_len]
    exact st_ret1 (ev_var (by rfl)) ⟨imm_mem _, h⟩
section
variable {P : Program} {w : World} {K : PySem.W.Frag} {mg : Str → Option Value} {base : Heap}
theorem sc_leaving : FnScope ["basis", "lift", "best", "k", "number"] ["basis", "lift"] (defScope (top 25)) := ⟨rfl, rfl, rfl, by decide +kernel, rfl, by decide +kernel, by decide +kernel⟩
theorem ok_leaving (T : Top P w K mg) : Fn P w K mg base 2 "leaving" ["basis", "lift"] (VSp (He.ga K "Basis") 2 v_leaving) := by
  obtain ⟨fd, F⟩ := T.fn 14 (x := "leaving") (st := (top 25)) rfl
  have sc := sc_leaving
  have tm : ∀ x, x ∈ frees → mg x = none := fun x hx => T.free x (mem_free hx)
  refine ⟨⟨fd, F.ok sc (fun vs H Q E h => h.len) (fun cdv A outer s H vs Q E hr h => ?d), F.bindsN fun _ _ _ _ _ _ us hl => match us, hl with | [_, _], _ => rfl⟩, T.glo "leaving" (mem_glo (by decide +kernel)), F.kp⟩
  exact ⟨_, PSs.nox (pss_cons (ps_set (i := 2) sc.nd rfl (by first | exact Or.inl rfl | exact Or.inr rfl) pe_non) (pss_cons (ps_for PassesOwn.never rfl (pi_enumS rfl (tm "enumerate" (by decide +kernel)) (pa_cons (pv 1) pa_nil)) (pg_tup (n := 2) rfl (pgs_cons (pg_name (i := 3) sc.nd rfl (by first | exact Or.inl rfl | exact Or.inr rfl)) (pgs_cons (pg_name (i := 4) sc.nd rfl (by first | exact Or.inl rfl | exact Or.inr rfl)) pgs_nil))) (pss_one (ps_if (PW.pt (pw_and (pt_cmpR op_gt (pv 4) pe_int (nomark _)) (pw_and1 (PW.pt (pw_or (pt_cmpR op_isN1 (pv 2) pe_non (nomark _)) (pw_or1 (pt_val (pe_callV (pe_f (ok_goes_first T) hr (by rfl) (pa_cons (pv 0) (pa_cons (pv 1) (pa_cons (pv 3) (pa_cons (pv 2) pa_nil))))))))))))) (pss_one (ps_set (i := 2) sc.nd rfl (by first | exact Or.inl rfl | exact Or.inr rfl) (pv 3))) pss_nil))) (pss_one (ps_ret (pv 2))))), vs_body h (dS := (r_leaving (He.ga K "Basis"))) inferInstance (body_leaving (He.ga K "Basis"))⟩

end
end K04
set_option Elab.async false
set_option linter.all false
set_option maxRecDepth 100000
set_option maxHeartbeats 4000000
set_option synthInstance.maxHeartbeats 4000000
set_option synthInstance.maxSize 100000
namespace K04
open PySem PySem.Spec PyProof.Rows L2 RZ Lf
section
variable {C : Addr} {env : Lf.Env} {i j k : Nat} {st : BSt} {E : DEnds} {de : DE}
theorem ev_fldL {z : Int} (h : env[i]? = some (some (.o (bas C st)))) (hj : env[j]? = some (some (.d (.int (k : Nat))))) (hz : st.levels[k]? = some z) : Ev (dFldIx C i "levels" j) env (.int z) := fun Q q => ⟨st, h, k, hj, .inl ⟨rfl, z, hz, q _ rfl⟩⟩
theorem ev_fldR {r : List Int} (h : env[i]? = some (some (.o (bas C st)))) (hj : env[j]? = some (some (.d (.int (k : Nat))))) (hz : st.inverse[k]? = some r) : Ev (dFldIx C i "inverse" j) env (lstD r) := fun Q q => ⟨st, h, k, hj, .inr ⟨rfl, r, hz, q _ rfl⟩⟩
theorem ev_fldS (h : env[i]? = some (some (.o (bas C st)))) : Ev (dFldO C i "scale") env (.int st.scale) := fun Q q => ⟨st, h, rfl, q _ rfl⟩
theorem st_setL {z : Int} (h : Ev de env (.int z)) (hw : env[i]? = some (some (.o (bas C st)))) (hj : env[j]? = some (some (.d (.int (k : Nat))))) (hk : k < st.levels.length) (q : E.nx (env.set i (some (.o (bas C { st with levels := st.levels.set k z }))))) : dSetIx C i "levels" j de env E :=
  h _ fun _ e => by subst e; exact ⟨keepE_refl, st, k, hw, hj, .inl ⟨rfl, hk, z, rfl, q⟩⟩
theorem st_setM {m : Option Nat} (h : Ev de env (memD m)) (hw : env[i]? = some (some (.o (bas C st)))) (hj : env[j]? = some (some (.d (.int (k : Nat))))) (hk : k < st.members.length) (q : E.nx (env.set i (some (.o (bas C { st with members := st.members.set k m }))))) : dSetIx C i "members" j de env E :=
  h _ fun _ e => by subst e; exact ⟨keepE_refl, st, k, hw, hj, .inr (.inl ⟨rfl, hk, m, rfl, q⟩)⟩
theorem st_setR {r : List Int} (h : Ev de env (lstD r)) (hw : env[i]? = some (some (.o (bas C st)))) (hj : env[j]? = some (some (.d (.int (k : Nat))))) (hk : k < st.inverse.length) (q : E.nx (env.set i (some (.o (bas C { st with inverse := st.inverse.set k r }))))) : dSetIx C i "inverse" j de env E :=
  h _ fun _ e => by subst e; exact ⟨keepE_refl, st, k, hw, hj, .inr (.inr ⟨rfl, hk, r, rfl, q⟩)⟩
theorem st_setS {z : Int} (h : Ev de env (.int z)) (hw : env[i]? = some (some (.o (bas C st)))) (q : E.nx (env.set i (some (.o (bas C { st with scale := z }))))) : dSetFld C i "scale" de env E :=
  h _ fun _ e => by subst e; exact ⟨keepE_refl, st, hw, rfl, z, rfl, q⟩
end
theorem ev_mkR {env : Lf.Env} {di : DI} {dg : DG} {js vs : List Nat} {de : DE} {n : Nat} {x : Nat → D} {f : Nat → Int} (hi : EvI di env ((List.range n).map x)) (l : n ≤ 100000) (hj : ∀ j ∈ js, j ∈ vs) (no : noOwnB env vs = true)
    (h : ∀ k, k < n → ∃ e2, Tg dg (x k) (wipeE env vs) e2 ∧ Ev de e2 (.int (f k))) : Ev (dOfN (dLcN di dg js dYes de vs)) env (lstD (mk n f)) := by
  unfold lstD
  rw [mk_int]
  exact ev_of (ea_mapR hi l hj no h)
theorem range_set {α : Type} (n k : Nat) (f : Nat → α) (z : α) : ((List.range n).map f).set k z = (List.range n).map fun t => if t = k then z else f t := by
  apply List.ext_getElem?
  intro i
  by_cases h : i < n
  · rw [List.getElem?_map, List.getElem?_range h]
    by_cases e : k = i
    · subst e
      rw [List.getElem?_set_self (by simpa using h)]; simp
    · rw [List.getElem?_set_ne e, List.getElem?_map, List.getElem?_range h]
      have : ¬ i = k := fun z => e z.symm
      simp [this]
  · rw [List.getElem?_eq_none (by simp; omega), List.getElem?_eq_none (by simp; omega)]
theorem mk_congrF {n : Nat} {s t : Sx.St} (hd : s.d = t.d) (hL : ∀ k, k < n → s.L k = t.L k) (hM : ∀ k, k < n → s.M k = t.M k) (hN : ∀ k, k < n → ∀ i, i < n → s.N k i = t.N k i) : stB n s = stB n t := by
  unfold stB
  have e1 : mk n s.L = mk n t.L := mk_congr hL
  have e2 : (List.range n).map s.M = (List.range n).map t.M := List.map_congr_left fun k hk => hM k (List.mem_range.mp hk)
  have e3 : ((List.range n).map fun k => mk n (s.N k)) = (List.range n).map fun k => mk n (t.N k) := List.map_congr_left fun k hk => mk_congr (hN k (List.mem_range.mp hk))
  rw [hd, e1, e2, e3]
/-- the state while the rows below i are the next ones -/
def mid (n : Nat) (s : Sx.St) (a : Sx.Vec) (r j : Nat) (i : Nat) : Sx.St := { d := s.d, L := fun k => if k < i then (s.next n a r j).L k else s.L k, M := s.M, N := fun k => if k < i then (s.next n a r j).N k else s.N k }
theorem mid_step {n : Nat} {s : Sx.St} {a : Sx.Vec} {r j i : Nat} : ({ stB n (mid n s a r j i) with levels := (stB n (mid n s a r j i)).levels.set i ((s.next n a r j).L i), inverse := (stB n (mid n s a r j i)).inverse.set i (mk n ((s.next n a r j).N i)) } : BSt) = stB n (mid n s a r j (i + 1)) := by
  have e1 : (mk n (mid n s a r j i).L).set i ((s.next n a r j).L i) = mk n (mid n s a r j (i + 1)).L := by
    unfold mk
    rw [range_set]
    refine List.map_congr_left fun k _ => ?_
    simp only [mid]
    by_cases z : k = i
    · subst z; rw [if_pos rfl, if_pos (by omega)]
    · by_cases z2 : k < i
      · rw [if_neg z, if_pos z2, if_pos (by omega)]
      · rw [if_neg z, if_neg z2, if_neg (by omega)]
  have e2 : ((List.range n).map fun k => mk n ((mid n s a r j i).N k)).set i (mk n ((s.next n a r j).N i)) = (List.range n).map fun k => mk n ((mid n s a r j (i + 1)).N k) := by
    rw [range_set]
    refine List.map_congr_left fun k _ => ?_
    simp only [mid]
    by_cases z : k = i
    · subst z; rw [if_pos rfl, if_pos (by omega)]
    · by_cases z2 : k < i
      · rw [if_neg z, if_pos z2, if_pos (by omega)]
      · rw [if_neg z, if_neg z2, if_neg (by omega)]
  show BSt.mk _ ((mk n (mid n s a r j i).L).set i ((s.next n a r j).L i)) _ (((List.range n).map fun k => mk n ((mid n s a r j i).N k)).set i (mk n ((s.next n a r j).N i))) = _
  rw [e1, e2]; rfl
theorem mid_end {n : Nat} {s : Sx.St} {a : Sx.Vec} {r j : Nat} : ({ stB n (mid n s a r j n) with members := (stB n (mid n s a r j n)).members.set r (some j), scale := s.lift n a r } : BSt) = stB n (s.next n a r j) := by
  have e1 : mk n (mid n s a r j n).L = mk n (s.next n a r j).L := mk_congr fun k hk => by simp only [mid]; rw [if_pos hk]
  have e2 : ((List.range n).map fun k => mk n ((mid n s a r j n).N k)) = (List.range n).map fun k => mk n ((s.next n a r j).N k) := List.map_congr_left fun k hk => by
    simp only [mid]; rw [if_pos (List.mem_range.mp hk)]
  have e3 : ((List.range n).map s.M).set r (some j) = (List.range n).map (Sx.put s.M r j) := by rw [range_set]; rfl
  show BSt.mk _ (mk n (mid n s a r j n).L) (((List.range n).map s.M).set r (some j)) ((List.range n).map fun k => mk n ((mid n s a r j n).N k)) = _
  rw [e1, e2, e3]; rfl
def w_Basis_pivot (Cb : Addr) : OW := fun w ds K => ∃ n s r, ∃ (a : Sx.Vec) (j : Nat), w = bas Cb (stB n s) ∧ n ≤ 60 ∧ r < n ∧ Bnd n s ∧ (∀ k, k < n → (s.lift n a k).natAbs < 2 ^ 8000) ∧ 0 < s.d ∧ 0 < s.lift n a r ∧ ds = [.int (r : Nat), lstD (mk n (s.lift n a)), .int (j : Nat)] ∧ K .non (bas Cb (stB n (s.next n a r j)))
def r_Basis_pivot (C : Addr) : DS := (dSeq (dAsg (dTup (dCons (dOp dIx (dVar 2) (dVar 1)) (dCons (dFldO C 0 "scale") dNil))) (dgTup 2 (dgCons (dgN 4) (dgCons (dgN 5) dgNil)))) (dSeq (dPar 6 7 (dCons (dFldIx C 0 "inverse" 1) (dCons (dFldIx C 0 "levels" 1) dNil))) (dSeq (dFor (diEnumS (dCons (dVar 2) dNil)) (dgTup 2 (dgCons (dgN 8) (dgCons (dgN 9) dgNil))) (dSeq (dIfS (dOr (dTest (dOp dEqD (dVar 8) (dVar 1))) (dAnd (dTest (dOp dEqD (dVar 9) (dC (.int 0)))) (dTest (dOp dEqD (dVar 4) (dVar 5))))) dCnt dNext) (dSeq (dSetIx C 0 "levels" 8 (dOp dbFdiv (dOp (rII fun i j => i - j) (dOp dbMul (dVar 4) (dFldIx C 0 "levels" 8)) (dOp dbMul (dVar 9) (dVar 7))) (dVar 5))) (dIfS (dTest (dOp dEqD (dVar 9) (dC (.int 0)))) (dSetIx C 0 "inverse" 8 (dOfN (dLcN (diSeq (dFldIx C 0 "inverse" 8)) (dgN 10) [10] dYes (dOp dbFdiv (dOp dbMul (dVar 4) (dVar 10)) (dVar 5)) [10]))) (dSetIx C 0 "inverse" 8 (dOfN (dLcN (diZipS (dCons (dFldIx C 0 "inverse" 8) (dCons (dVar 6) dNil))) (dgTup 2 (dgCons (dgN 10) (dgCons (dgN 11) dgNil))) [10, 11] dYes (dOp dbFdiv (dOp (rII fun i j => i - j) (dOp dbMul (dVar 4) (dVar 10)) (dOp dbMul (dVar 9) (dVar 11))) (dVar 5)) [10, 11]))))))) (dSeq (dSetIx C 0 "members" 1 (dVar 3)) (dSetFld C 0 "scale" (dVar 4))))))
theorem body_Basis_pivot (Cb : Addr) : ∀ (w : Ow) (as : List D) (C : D → Ow → Prop), as.length + 1 = 4 → w_Basis_pivot Cb w as C →
    r_Basis_pivot Cb (some (.o w) :: env0 (["self", "out", "lift", "member", "lead", "old", "line", "level", "k", "factor", "here", "there"].length - 4) as) { nx := fun env' => ∃ w', env'[0]? = some (some (.o w')) ∧ C .non w', rt := fun d env' => ∃ w', env'[0]? = some (some (.o w')) ∧ C d w' } := by
  rintro w as C _ ⟨n, s, r, a, j, rfl, hn, hr, hb, hl, hd, lead, rfl, h⟩
  have lv : ∀ (t : Sx.St) k, k < n → (stB n t).levels[k]? = some (t.L k) := fun t k hk => by
    show (mk n t.L)[k]? = _
    unfold mk; rw [List.getElem?_map, List.getElem?_range hk]; rfl
  have iv : ∀ (t : Sx.St) k, k < n → (stB n t).inverse[k]? = some (mk n (t.N k)) := fun t k hk => by
    show ((List.range n).map fun k => mk n (t.N k))[k]? = _
    rw [List.getElem?_map, List.getElem?_range hk]; rfl
  refine st_seq (st_asgT (d := .tup [.int (s.lift n a r), .int s.d]) (ev_tup (ea_cons (ev_op (ev_var (by rfl)) (ev_var (by rfl)) fun C k => ix_mk hr k) (ea_cons (ev_fldS (st := stB n s) (by rfl)) ea_nil)) (by show 2 ≤ 100000; decide)) (tg_two (by rfl) (by rfl)) ?_)
  refine st_seq (st_par (x := lstD (mk n (s.N r))) (y := .int (s.L r)) (ea_cons (ev_fldR (by rfl) (by rfl) (iv s r hr)) (ea_cons (ev_fldL (by rfl) (by rfl) (lv s r hr)) ea_nil)) (by rfl) (by rfl) ?_)
  have m0 : stB n s = stB n (mid n s a r j 0) := mk_congrF rfl (fun k _ => by simp [mid]) (fun _ _ => rfl) (fun k _ i _ => by simp [mid])
  have nL : ∀ k, (s.next n a r j).L k = if k = r then s.L r else (s.lift n a r * s.L k - s.lift n a k * s.L r).fdiv s.d := fun _ => rfl
  have nN : ∀ k, (s.next n a r j).N k = if k = r then s.N r else fun i => (s.lift n a r * s.N k i - s.lift n a k * s.N r i).fdiv s.d := fun _ => rfl
  rw [m0]
  refine st_seq (st_for (xs := enumD ((mk n (s.lift n a)).map .int)) (fun i e => ∃ t u : Option D, i ≤ n ∧ e = [some (.o (bas Cb (stB n (mid n s a r j i)))), some (.d (.int (r : Nat))), some (.d (lstD (mk n (s.lift n a)))), some (.d (.int (j : Nat))), some (.d (.int (s.lift n a r))), some (.d (.int s.d)), some (.d (lstD (mk n (s.N r)))), some (.d (.int (s.L r))), t.map .d, u.map .d, none, none])
    (ei_enum (p := false) (ea_cons (ev_var (by rfl)) ea_nil) rfl) ⟨none, none, Nat.zero_le _, by rfl⟩ ?_ ?_)
  · rintro i x e hx ⟨t, u, _, rfl⟩
    have hlt : i < n := by
      have := (List.getElem?_eq_some_iff.mp hx).1
      rw [enumD_len, List.length_map, mk_len] at this
      exact this
    have e1 : (enumD ((mk n (s.lift n a)).map .int))[i]? = some (.tup [.int (i : Nat), .int (s.lift n a i)]) := enumD_at (by rw [mk_int, List.getElem?_map, List.getElem?_range hlt]; rfl)
    rw [e1] at hx
    cases hx
    have same : (s.next n a r j).L i = s.L i → (∀ t, t < n → (s.next n a r j).N i t = s.N i t) → stB n (mid n s a r j i) = stB n (mid n s a r j (i + 1)) := fun q1 q2 => mk_congrF rfl (fun k hk => by
        simp only [mid]
        by_cases z : k < i
        · rw [if_pos z, if_pos (by omega)]
        · by_cases z2 : k = i
          · subst z2; rw [if_neg z, if_pos (by omega), q1]
          · rw [if_neg z, if_neg (by omega)]) (fun _ _ => rfl) (fun k hk t ht => by
        simp only [mid]
        by_cases z : k < i
        · rw [if_pos z, if_pos (by omega)]
        · by_cases z2 : k = i
          · subst z2; rw [if_neg z, if_pos (by omega), q2 t ht]
          · rw [if_neg z, if_neg (by omega)])
    refine ⟨_, tg_two (by cases t <;> rfl) (by cases t <;> cases u <;> rfl), ?_⟩
    refine st_seq (st_if1 (p := decide ((i : Int) = (r : Int)) || (decide (s.lift n a i = 0) && decide (s.lift n a r = s.d))) (et_or (et_test (ev_op (ev_var (by rfl)) (ev_var (by rfl)) fun C k => rv_eq flat_int.shp flat_int.shp (by rw [dEq_int]) k)) fun _ =>
      et_and (et_test (ev_op (ev_var (by rfl)) ev_c fun C k => rv_eq flat_int.shp flat_int.shp (by rw [dEq_int]) k)) fun _ => et_test (ev_op (ev_var (by rfl)) (ev_var (by rfl)) fun C k => rv_eq flat_int.shp flat_int.shp (by rw [dEq_int]) k)) (fun e => ?_) fun e => ?_)
    · refine ⟨some (.int (i : Nat)), some (.int (s.lift n a i)), hlt, ?_⟩
      have sm : stB n (mid n s a r j i) = stB n (mid n s a r j (i + 1)) := by
        by_cases ir : i = r
        · subst ir
          exact same (by rw [nL, if_pos rfl]) fun t _ => by rw [nN, if_pos rfl]
        · have z1 : s.lift n a i = 0 ∧ s.lift n a r = s.d := by
            have : ¬ ((i : Int) = (r : Int)) := by omega
            simpa [this] using e
          exact same (by rw [nL, if_neg ir, z1.1, z1.2]; simp; exact Int.mul_fdiv_cancel_left _ (by omega)) fun t _ => by
            rw [nN, if_neg ir]
            show (s.lift n a r * s.N i t - s.lift n a i * s.N r t).fdiv s.d = _
            rw [z1.1, z1.2]; simp; exact Int.mul_fdiv_cancel_left _ (by omega)
      rw [sm]; rfl
    · have ir : i ≠ r := fun z => by rw [z] at e; simp at e
      have cdiv : ∀ z : Int, z / s.d = z.fdiv s.d := fun z => (Int.fdiv_eq_ediv_of_nonneg z (by omega)).symm
      have cw : ∀ z : Int, CDivW z s.d := fun z => wide_div (b := 8000) hd hb.d (by decide) (by decide)
      have mi : (mid n s a r j i).L i = s.L i := by simp [mid]
      have mn : (mid n s a r j i).N i = s.N i := by simp [mid]
      simp only [dNext]
      refine st_seq (st_setL (z := (s.lift n a r * s.L i - s.lift n a i * s.L r).fdiv s.d) ?_ (by rfl) (by rfl) (by show i < (mk n _).length; rw [mk_len]; exact hlt) ?_)
      · exact ev_op (ev_op (ev_op (ev_var (by rfl)) (ev_fldL (by rfl) (by rfl) (by rw [lv _ _ hlt, mi])) fun C k => rv_mul (.inr (wide2 (hl r hr) (hb.L i hlt))) rfl k) (ev_op (ev_var (by rfl)) (ev_var (by rfl)) fun C k => rv_mul (.inr (wide2 (hl i hlt) (hb.L r hr))) rfl k) fun C k => rv_ii rfl k) (ev_var (by rfl)) fun C k => rv_fdivW (cw _) (cdiv _) k
      dsimp only
      have fin : ∀ {de : DE}, Ev de [some (.o (bas Cb { stB n (mid n s a r j i) with levels := (stB n (mid n s a r j i)).levels.set i ((s.next n a r j).L i) })), some (.d (.int (r : Nat))), some (.d (lstD (mk n (s.lift n a)))), some (.d (.int (j : Nat))), some (.d (.int (s.lift n a r))), some (.d (.int s.d)), some (.d (lstD (mk n (s.N r)))), some (.d (.int (s.L r))), some (.d (.int (i : Nat))), some (.d (.int (s.lift n a i))), none, none] (lstD (mk n ((s.next n a r j).N i))) →
          ∀ {E : DEnds}, (E.nx = fun e => ∃ t u : Option D, i + 1 ≤ n ∧ e = [some (.o (bas Cb (stB n (mid n s a r j (i + 1))))), some (.d (.int (r : Nat))), some (.d (lstD (mk n (s.lift n a)))), some (.d (.int (j : Nat))), some (.d (.int (s.lift n a r))), some (.d (.int s.d)), some (.d (lstD (mk n (s.N r)))), some (.d (.int (s.L r))), t.map .d, u.map .d, none, none]) →
          dSetIx Cb 0 "inverse" 8 de [some (.o (bas Cb { stB n (mid n s a r j i) with levels := (stB n (mid n s a r j i)).levels.set i ((s.next n a r j).L i) })), some (.d (.int (r : Nat))), some (.d (lstD (mk n (s.lift n a)))), some (.d (.int (j : Nat))), some (.d (.int (s.lift n a r))), some (.d (.int s.d)), some (.d (lstD (mk n (s.N r)))), some (.d (.int (s.L r))), some (.d (.int (i : Nat))), some (.d (.int (s.lift n a i))), none, none] E := fun {de} hde {E} hE => by
        refine st_setR (k := i) (st := { stB n (mid n s a r j i) with levels := (stB n (mid n s a r j i)).levels.set i ((s.next n a r j).L i) }) (r := mk n ((s.next n a r j).N i)) hde (by rfl) (by rfl) (by show i < ((List.range n).map _).length; simpa using hlt) ?_
        rw [hE]
        refine ⟨some (.int (i : Nat)), some (.int (s.lift n a i)), hlt, ?_⟩
        rw [← mid_step]; rfl
      have el : (s.lift n a r * s.L i - s.lift n a i * s.L r).fdiv s.d = (s.next n a r j).L i := by rw [nL, if_neg ir]
      rw [el]
      refine st_if1 (p := decide (s.lift n a i = 0)) (et_test (ev_op (ev_var (by rfl)) ev_c fun C k => rv_eq flat_int.shp flat_int.shp (by rw [dEq_int]) k)) (fun e0 => ?_) fun e0 => ?_
      · have z0 := of_decide_eq_true e0
        refine fin ?_ rfl
        refine ev_mkR (x := fun t => .int (s.N i t)) (ei_seq (ev_fldR (k := i) (st := { stB n (mid n s a r j i) with levels := (stB n (mid n s a r j i)).levels.set i ((s.next n a r j).L i) }) (by rfl) (by rfl) (iv _ _ hlt)) (by rw [mn]; unfold lstD; rw [mk_int]; rfl)) (by omega) (by simp) (by rfl) fun t ht => ⟨_, tg_n (by rfl), ?_⟩
        have e2 : (s.next n a r j).N i t = (s.lift n a r * s.N i t).fdiv s.d := by
          rw [nN, if_neg ir]
          show (s.lift n a r * s.N i t - s.lift n a i * s.N r t).fdiv s.d = _
          rw [z0, Int.zero_mul, Int.sub_zero]
        rw [e2]
        exact ev_op (ev_op (ev_var (by rfl)) (ev_var (by rfl)) fun C k => rv_mul (.inr (wide2 (hl r hr) (hb.N i hlt t ht))) rfl k) (ev_var (by rfl)) fun C k => rv_fdivW (cw _) (cdiv _) k
      · refine fin ?_ rfl
        refine ev_mkR (x := fun t => .tup [.int (s.N i t), .int (s.N r t)]) ?_ (by omega) (by simp) (by rfl) fun t ht => ⟨_, tg_two (by rfl) (by rfl), ?_⟩
        · rw [← zip_range]
          refine ei_zip (p := false) (q := false) (ea_cons (ev_fldR (k := i) (st := { stB n (mid n s a r j i) with levels := (stB n (mid n s a r j i)).levels.set i ((s.next n a r j).L i) }) (by rfl) (by rfl) (iv _ _ hlt)) (ea_cons (ev_var (by rfl)) ea_nil)) (by unfold lstD; rw [mk_int, mn]; rfl) (by unfold lstD; rw [mk_int]; rfl)
        · rw [nN, if_neg ir]
          exact ev_op (ev_op (ev_op (ev_var (by rfl)) (ev_var (by rfl)) fun C k => rv_mul (.inr (wide2 (hl r hr) (hb.N i hlt t ht))) rfl k) (ev_op (ev_var (by rfl)) (ev_var (by rfl)) fun C k => rv_mul (.inr (wide2 (hl i hlt) (hb.N r hr t ht))) rfl k) fun C k => rv_ii rfl k) (ev_var (by rfl)) fun C k => rv_fdivW (cw _) (cdiv _) k
  · rintro e ⟨t, u, _, rfl⟩
    rw [enumD_len, List.length_map, mk_len]
    refine st_seq (st_setM (m := some j) (ev_var (by rfl)) (by rfl) (by rfl) (by show r < ((List.range n).map _).length; simpa using hr) ?_)
    refine st_setS (ev_var (by rfl)) (by rfl) ?_
    refine ⟨bas Cb (stB n (s.next n a r j)), ?_, h⟩
    rw [← mid_end]; rfl
section
variable {P : Program} {w : World} {K : PySem.W.Frag} {mg : Str → Option Value} {base : Heap}
theorem sc_Basis_pivot : FnScope ["self", "out", "lift", "member", "lead", "old", "line", "level", "k", "factor", "here", "there"] ["self", "out", "lift", "member"] (defScope (meth 20 5)) := ⟨rfl, rfl, rfl, by decide +kernel, rfl, by decide +kernel, by decide +kernel⟩
theorem ok_Basis_pivot (T : Top P w K mg) : Mt P w K mg base 1 (He.ga K "Basis") "pivot" ["self", "out", "lift", "member"] (OSp 4 (w_Basis_pivot (He.ga K "Basis"))) := by
  obtain ⟨fd, F⟩ := T.says.def_ 54 (d := mdef "Basis" "pivot" "Basis.pivot" (meth 20 5)) rfl
  have sc := sc_Basis_pivot
  have tm : ∀ x, x ∈ frees → mg x = none := fun x hx => T.free x (mem_free hx)
  refine ⟨fd, FunD.ok F sc (fun vs H Q E h => h.len) (fun cdv A outer s H vs Q E hr h => ?d), FunD.bindsN F fun _ _ _ _ _ _ us hl => match us, hl with | [_, _, _, _], _ => rfl⟩
  exact ⟨_, PSs.nox (pss_cons (ps_asg (pe_tup (pa_cons (pe_ix (show IxR _ (fun x y H Q => rIxL K x y H Q ∨ rIxT K x y H Q) from ix_any) (pv 2) (pv 1) (fun _ _ => rfl)) (pa_cons (pe_fldO (pe_fldC (clsB T) (noatB T "scale" (by decide +kernel)) (pv 0))) pa_nil))) (pg_tup (n := 2) rfl (pgs_cons (pg_name (i := 4) sc.nd rfl (by first | exact Or.inl rfl | exact Or.inr rfl)) (pgs_cons (pg_name (i := 5) sc.nd rfl (by first | exact Or.inl rfl | exact Or.inr rfl)) pgs_nil)))) (pss_cons (ps_par (by rfl) sc.nd rfl rfl (by decide) rfl rfl (pa_cons (pe_fldIx (K := K) (pe_ix (show IxR _ (fun x y H Q => rIxL K x y H Q ∨ rIxT K x y H Q) from ix_any) (pe_fldC (clsB T) (noatB T "inverse" (by decide +kernel)) (pv 0)) (pv 1) (fun _ _ => rfl))) (pa_cons (pe_fldIx (K := K) (pe_ix (show IxR _ (fun x y H Q => rIxL K x y H Q ∨ rIxT K x y H Q) from ix_any) (pe_fldC (clsB T) (noatB T "levels" (by decide +kernel)) (pv 0)) (pv 1) (fun _ _ => rfl))) pa_nil)) (by rfl)) (pss_cons (ps_for PassesOwn.never rfl (pi_enumS rfl (tm "enumerate" (by decide +kernel)) (pa_cons (pv 2) pa_nil)) (pg_tup (n := 2) rfl (pgs_cons (pg_name (i := 8) sc.nd rfl (by first | exact Or.inl rfl | exact Or.inr rfl)) (pgs_cons (pg_name (i := 9) sc.nd rfl (by first | exact Or.inl rfl | exact Or.inr rfl)) pgs_nil))) (pss_cons (ps_if (PW.pt (pw_or (pt_cmpR (show OpR _ _ (rEqD K) from op_eqD hr.units) (pv 8) (pv 1) (nomark _)) (pw_or1 (PW.pt (pw_and (pt_cmpR (show OpR _ _ (rEqD K) from op_eqD hr.units) (pv 9) pe_int (nomark _)) (pw_and1 (pt_cmpR (show OpR _ _ (rEqD K) from op_eqD hr.units) (pv 4) (pv 5) (nomark _)))))))) (pss_one ps_continue) pss_nil) (pss_cons (ps_setIx (ps_asg (pe_op ob_fdiv (pe_op op_sub (pe_op (show OpR _ _ (rbMul K) from ob_mul) (pv 4) (pe_fldIx (K := K) (pe_ix (show IxR _ (fun x y H Q => rIxL K x y H Q ∨ rIxT K x y H Q) from ix_any) (pe_fldC (clsB T) (noatB T "levels" (by decide +kernel)) (pv 0)) (pv 8) (fun _ _ => rfl)))) (pe_op (show OpR _ _ (rbMul K) from ob_mul) (pv 9) (pv 7))) (pv 5)) (pg_sub (pe_fldC (clsB T) (noatB T "levels" (by decide +kernel)) (pv 0)) (pv 8) set_list))) (pss_one (ps_if (pt_cmpR (show OpR _ _ (rEqD K) from op_eqD hr.units) (pv 9) pe_int (nomark _)) (pss_one (ps_setIx (ps_asg (pe_lc (own := [("here", 10)]) (g := (gName 10)) rfl sc.nd (pi_seq (pe_fldIx (K := K) (pe_ix (show IxR _ (fun x y H Q => rIxL K x y H Q ∨ rIxT K x y H Q) from ix_any) (pe_fldC (clsB T) (noatB T "inverse" (by decide +kernel)) (pv 0)) (pv 8) (fun _ _ => rfl)))) (blkOk_by (N := ["self", "out", "lift", "member", "lead", "old", "line", "level", "k", "factor", "here", "there"]) (sc := defScope (meth 20 5)) (by decide +kernel)) (fun _ _ _ _ _ => (pg_name (i := 10) sc.nd rfl (by first | exact Or.inl rfl | exact Or.inr rfl))) (fun _ _ _ _ _ => pts_nil) (fun _ _ _ _ _ => (pe_op ob_fdiv (pe_op (show OpR _ _ (rbMul K) from ob_mul) (pv 4) (pv 10)) (pv 5)))) (pg_sub (pe_fldC (clsB T) (noatB T "inverse" (by decide +kernel)) (pv 0)) (pv 8) set_list)))) (pss_one (ps_setIx (ps_asg (pe_lc (own := [("here", 10), ("there", 11)]) (g := (gTup K 2 (gCons (gName 10) (gCons (gName 11) gNil)))) rfl sc.nd (pi_zipS rfl (tm "zip" (by decide +kernel)) (pa_cons (pe_fldIx (K := K) (pe_ix (show IxR _ (fun x y H Q => rIxL K x y H Q ∨ rIxT K x y H Q) from ix_any) (pe_fldC (clsB T) (noatB T "inverse" (by decide +kernel)) (pv 0)) (pv 8) (fun _ _ => rfl))) (pa_cons (pv 6) pa_nil))) (blkOk_by (N := ["self", "out", "lift", "member", "lead", "old", "line", "level", "k", "factor", "here", "there"]) (sc := defScope (meth 20 5)) (by decide +kernel)) (fun _ _ _ _ _ => (pg_tup (n := 2) rfl (pgs_cons (pg_name (i := 10) sc.nd rfl (by first | exact Or.inl rfl | exact Or.inr rfl)) (pgs_cons (pg_name (i := 11) sc.nd rfl (by first | exact Or.inl rfl | exact Or.inr rfl)) pgs_nil)))) (fun _ _ _ _ _ => pts_nil) (fun _ _ _ _ _ => (pe_op ob_fdiv (pe_op op_sub (pe_op (show OpR _ _ (rbMul K) from ob_mul) (pv 4) (pv 10)) (pe_op (show OpR _ _ (rbMul K) from ob_mul) (pv 9) (pv 11))) (pv 5)))) (pg_sub (pe_fldC (clsB T) (noatB T "inverse" (by decide +kernel)) (pv 0)) (pv 8) set_list))))))))) (pss_cons (ps_setIx (ps_asg (pv 3) (pg_sub (pe_fldC (clsB T) (noatB T "members" (by decide +kernel)) (pv 0)) (pv 1) set_list))) (pss_one (ps_fldC (clsB T) (noatB T "scale" (by decide +kernel)) (pv 0) (pv 4))))))), os_body h (ds := (r_Basis_pivot (He.ga K "Basis"))) inferInstance (body_Basis_pivot (He.ga K "Basis"))⟩

end
end K04
set_option Elab.async false
set_option linter.all false
set_option maxRecDepth 100000
set_option maxHeartbeats 4000000
set_option synthInstance.maxHeartbeats 4000000
set_option synthInstance.maxSize 100000
namespace K04
open PySem PySem.Spec PyProof.Rows L2 RZ Lf
section
variable {C : Addr} {env : Lf.Env} {i n : Nat} {ow : OW} {da : DA} {ds : List D} {st : BSt} {E : DEnds} {m : Str}
theorem st_methO (hw : env[i]? = some (some (.o (bas C st)))) (hm : st.flds.lookup m = none) (h : EvA da env ds) (l : ds.length + 1 = n) (k : ow (bas C st) ds fun d w' => keepE env (env.set i (some (.o w'))) ∧ E.nx (env.set i (some (.o w')))) : dDrop (dMethO C m n ow i da) env E :=
  ⟨⟨st, hw, hm⟩, ⟨bas C st, hw⟩, h _ fun _ e => by
    subst e
    exact ⟨l, keepE_refl, bas C st, hw, k⟩⟩
theorem es_maxDef {ns : List Int} {d : Int} {a : DE} (h : Ev a env (.lst (ns.map .int))) : Es (dMaxDef a d) env fun x => ∃ b, x = .int b ∧ ((ns = [] ∧ b = d) ∨ (b ∈ ns ∧ ∀ y ∈ ns, y ≤ b)) := fun K k => h _ fun x e => by
  subst e
  exact ⟨ns, rfl, fun z => k _ ⟨d, rfl, .inl ⟨z, rfl⟩⟩, fun m hm hy => k _ ⟨m, rfl, .inr ⟨hm, hy⟩⟩⟩
theorem ev_index {ns : List Int} {b : Int} {i j k : Nat} (h1 : env[i]? = some (some (.d (.lst (ns.map .int))))) (h2 : env[j]? = some (some (.d (.int b)))) (h3 : ns[k]? = some b) (h4 : ∀ k' z, k' < k → ns[k']? = some z → z ≠ b) : Ev (dIndex i j) env (.int (k : Nat)) := fun Q q => ⟨ns, b, k, h1, h2, h3, h4, q _ rfl⟩
end
/-- columns and a goal, as the search takes them -/
structure Srch (n : Nat) (cols : List (List Int)) (goal : List Int) : Prop where
  cg : CG n cols goal
theorem colF_len {n : Nat} {cols : List (List Int)} (h : Cols n cols) {j : Nat} (hj : j < cols.length) : (cols.getD j []).length = n := h.len _ (by
  rw [List.getD_eq_getElem?_getD, List.getElem?_eq_getElem hj]; exact List.getElem_mem hj)
theorem cols_small {n : Nat} {cols : List (List Int)} {goal : List Int} (h : CG n cols goal) {j : Nat} (hj : j < cols.length) : Small (cols.getD j []) := h.csm _ (by
  rw [List.getD_eq_getElem?_getD, List.getElem?_eq_getElem hj]; exact List.getElem_mem hj)
theorem colF_abs {n : Nat} {cols : List (List Int)} {goal : List Int} (h : CG n cols goal) : ∀ j, j < cols.length → ∀ i, i < n → (colF cols j i).natAbs ≤ 2 ^ 64 := fun j hj i hi => by
  have := cols_small h hj _ (Sx.fn_mem (by rw [colF_len h.ok hj]; exact hi))
  unfold colF
  omega
theorem goal_abs {n : Nat} {cols : List (List Int)} {goal : List Int} (h : CG n cols goal) : ∀ i, i < n → (Sx.fn goal i).natAbs ≤ 2 ^ 64 := fun i hi => by
  have := h.gsm _ (Sx.fn_mem (by rw [h.glen]; exact hi))
  omega
theorem ev_abs (k : Nat) : ∀ i, (Sx.ev k i).natAbs ≤ 2 ^ 64 := fun i => by unfold Sx.ev; split <;> decide
abbrev GoodS (n : Nat) (cols : List (List Int)) (goal : List Int) (s : Sx.St) : Prop := Sx.Good n cols.length (Sx.first n (Sx.fn goal)) (Sx.fn goal) (colF cols) (Sx.dg fun k => Sx.sgn (Sx.fn goal k)) s
theorem GoodS.bnd {n : Nat} {cols : List (List Int)} {goal : List Int} {s : Sx.St} (h : CG n cols goal) (G : GoodS n cols goal s) : Bnd n s := by
  have n60 := h.ok.n60
  refine ⟨Sx.Good.abs_d G n60 (colF_abs h), fun k hk => ?_, fun k hk i hi => ?_⟩
  · rw [G.lv k hk]; exact Sx.Good.abs G n60 (colF_abs h) hk _ (goal_abs h)
  · rw [← Sx.dot_ev (n := n) (u := s.N k) hi]; exact Sx.Good.abs G n60 (colF_abs h) hk _ fun t _ => ev_abs i t
theorem GoodS.lift {n : Nat} {cols : List (List Int)} {goal : List Int} {s : Sx.St} (h : CG n cols goal) (G : GoodS n cols goal s) {j : Nat} (hj : j < cols.length) : ∀ k, k < n → (s.lift n (colF cols j) k).natAbs < 2 ^ 8000 := fun k hk =>
  Sx.Good.abs G h.ok.n60 (colF_abs h) hk _ (colF_abs h j hj)
noncomputable def endS (n : Nat) (cols : List (List Int)) (goal : List Int) : Sx.St :=
  Sx.gat n cols.length (colF cols) (Sx.mu (Sx.first n (Sx.fn goal)) n cols.length (Sx.fn goal) (colF cols) (Sx.dg fun k => Sx.sgn (Sx.fn goal k)) (Sx.St.first (Sx.fn goal)).M) (Sx.St.first (Sx.fn goal))
noncomputable def gatB (b : Bool) (n m : Nat) (C : Nat → Sx.Vec) (f : Nat) (s : Sx.St) : Sx.St := if b = true then Sx.gatT n m C f s else Sx.gat n m C f s
theorem gatB_stuck {b : Bool} {n m : Nat} {C : Nat → Sx.Vec} {s : Sx.St} (h : Sx.ent n m s C = none) (f : Nat) : gatB b n m C f s = s := by
  cases b
  · exact Sx.gat_stuck h f
  · exact Sx.gatT_stuck h f
theorem gatB_step {b : Bool} {n m : Nat} {C : Nat → Sx.Vec} {s : Sx.St} {j r f : Nat} (h : b = false → ¬ s.lack n ≤ 0) (e : Sx.ent n m s C = some j) (p : Sx.pk n s (s.lift n (C j)) n = some r) : gatB b n m C (f + 1) s = gatB b n m C f (s.next n (C j) r j) := by
  cases b
  · exact Sx.gat_step (h rfl) e p
  · exact Sx.gatT_step e p
noncomputable def endB (b : Bool) (n : Nat) (cols : List (List Int)) (goal : List Int) : Sx.St :=
  gatB b n cols.length (colF cols) (Sx.mu (Sx.first n (Sx.fn goal)) n cols.length (Sx.fn goal) (colF cols) (Sx.dg fun k => Sx.sgn (Sx.fn goal k)) (Sx.St.first (Sx.fn goal)).M) (Sx.St.first (Sx.fn goal))
theorem endB_false {n : Nat} {cols : List (List Int)} {goal : List Int} : endB false n cols goal = endS n cols goal := rfl
noncomputable def endT (n : Nat) (cols : List (List Int)) (goal : List Int) : Sx.St := endB true n cols goal
def w_gather (Cb : Addr) : OW := fun w ds K => ∃ b n cols goal, CG n cols goal ∧ w = bas Cb (stB n (Sx.St.first (Sx.fn goal))) ∧ ds = [.lst (cols.map spD), .bl b] ∧ K .non (bas Cb (stB n (endB b n cols goal)))
def r_gather (C : Addr) : DS := (dWhile (dOr (dTest (dVar 2)) (dTest (dOp (rIB fun i j => decide (j < i)) (dMethV C "lack" 1 v_Basis_lack 0 dNil) (dC (.int 0))))) (dSeq (dAsg (dMethV C "stand_in_prices" 1 v_Basis_stand_in_prices 0 dNil) (dgN 3)) (dSeq (dAsg (dCallP 2 w_prices_of (dCons (dVar 3) (dCons (dVar 1) dNil))) (dgN 4)) (dSeq (dAsg (dMaxDef (dVar 4) 0) (dgN 5)) (dSeq (dIfS (dTest (dOp (rIB fun i j => decide (i ≤ j)) (dVar 5) (dC (.int 0)))) dRetN dNext) (dSeq (dAsg (dIndex 4 5) (dgN 6)) (dSeq (dAsg (dMethV C "lifted" 2 v_Basis_lifted 0 (dCons (dOp dIx (dVar 1) (dVar 6)) dNil)) (dgN 7)) (dDrop (dMethO C "pivot" 4 (w_Basis_pivot C) 0 (dCons (dCallV C 2 v_leaving 0 (dCons (dVar 7) dNil)) (dCons (dVar 7) (dCons (dVar 6) dNil))))))))))))
theorem cols_range (cols : List (List Int)) : cols.map spD = (List.range cols.length).map fun j => spD (cols.getD j []) := by
  apply List.ext_getElem?
  intro i
  by_cases h : i < cols.length
  · rw [List.getElem?_map, List.getElem?_map, List.getElem?_range h, List.getElem?_eq_getElem h]
    simp [List.getD_eq_getElem?_getD, h]
  · rw [List.getElem?_eq_none (by simp; omega), List.getElem?_eq_none (by simp; omega)]
theorem least {P : Nat → Prop} : ∀ {k : Nat}, P k → ∃ j, j ≤ k ∧ P j ∧ ∀ i, i < j → ¬ P i := by
  intro k
  induction k using Nat.strongRecOn with
  | ind k ih =>
    intro h
    by_cases q : ∃ i, i < k ∧ P i
    · obtain ⟨i, hi, pi⟩ := q
      obtain ⟨j, h1, h2, h3⟩ := ih i hi pi
      exact ⟨j, by omega, h2, h3⟩
    · exact ⟨k, Nat.le_refl _, h, fun i hi pi => q ⟨i, hi, pi⟩⟩
theorem prices_eq {n : Nat} {cols : List (List Int)} {goal : List Int} {s : Sx.St} (cg : CG n cols goal) : D.lst (cols.map fun c => D.int (Sx.dot (mk n (s.price n)).length (Sx.fn (mk n (s.price n))) (Sx.fn c))) = lstD (mk cols.length (Sx.wth n s (colF cols))) := by
  unfold lstD
  congr 1
  rw [mk_len, mk_int]
  apply List.ext_getElem?
  intro i
  by_cases hi : i < cols.length
  · rw [List.getElem?_map, List.getElem?_map, List.getElem?_range hi, List.getElem?_eq_getElem hi]
    have e : Sx.dot n (Sx.fn (mk n (s.price n))) (Sx.fn (cols[i]'hi)) = Sx.wth n s (colF cols) i := by
      refine Sx.dot_congr (fun i hi => mk_at hi) fun k _ => ?_
      unfold colF; rw [List.getD_eq_getElem?_getD, List.getElem?_eq_getElem hi]; rfl
    show some (D.int _) = some (D.int _)
    rw [e]
  · rw [List.getElem?_eq_none (by simp; omega), List.getElem?_eq_none (by simp; omega)]
theorem body_gather (Cb : Addr) : ∀ (w : Ow) (as : List D) (C : D → Ow → Prop), as.length + 1 = 3 → w_gather Cb w as C →
    r_gather Cb (some (.o w) :: env0 (["basis", "columns", "whole", "prices", "worths", "best", "entering", "lift"].length - 3) as) { nx := fun env' => ∃ w', env'[0]? = some (some (.o w')) ∧ C .non w', rt := fun d env' => ∃ w', env'[0]? = some (some (.o w')) ∧ C d w' } := by
  rintro w as C _ ⟨bb, n, cols, goal, cg, rfl, rfl, h⟩
  have n60 := cg.ok.n60
  have few := cg.ok.few
  have glen := cg.glen
  refine st_while (fun m e => ∃ (s : Sx.St) (f : Nat) (a b c d g : Option D), m = Sx.mu (Sx.first n (Sx.fn goal)) n cols.length (Sx.fn goal) (colF cols) (Sx.dg fun k => Sx.sgn (Sx.fn goal k)) s.M ∧ m ≤ f ∧ endB bb n cols goal = gatB bb n cols.length (colF cols) f s ∧ GoodS n cols goal s ∧
    e = [some (.o (bas Cb (stB n s))), some (.d (.lst (cols.map spD))), some (.d (.bl bb)), a.map .d, b.map .d, c.map .d, d.map .d, g.map .d]) ⟨Sx.St.first (Sx.fn goal), _, none, none, none, none, none, rfl, Nat.le_refl _, rfl, Sx.good_first, by rfl⟩ ?_
  rintro m e ⟨s, f, a, b, c, d, g, hm, hf, he, G, rfl⟩
  refine ⟨bb || decide (0 < s.lack n), ?_, fun hl => ?_, fun hl => ?_⟩
  · exact et_or (p := bb) (et_test (ev_var (by rfl))) fun _ => et_test (ev_op (es_methV (by rfl) asRec_bas rfl ea_nil rfl fun K k => ⟨n, s, rfl, n60, rfl, k _ rfl⟩) ev_c fun C k => rv_ib rfl k)
  · have lack : bb = false → ¬ s.lack n ≤ 0 := fun hb => by
      rw [hb, Bool.false_or] at hl
      have := of_decide_eq_true hl
      omega
    refine st_seq (st_asg1 (d := lstD (mk n (s.price n))) (es_methV (by rfl) asRec_bas rfl ea_nil rfl fun K k => ⟨n, s, rfl, n60, rfl, k _ rfl⟩) (by cases a <;> rfl) ?_)
    have e0 := prices_eq (s := s) cg
    refine st_seq (st_asg1 (d := lstD (mk cols.length (Sx.wth n s (colF cols)))) (ev_call (ea_cons (ev_var (by rfl)) (ea_cons (ev_var (by rfl)) ea_nil)) rfl fun C k => ⟨mk n (s.price n), cols, rfl, by omega, by rw [mk_len]; omega, fun c hc => ⟨by rw [mk_len]; exact cg.ok.len c hc, cg.csm c hc⟩, by rw [e0]; exact k⟩) (by cases b <;> rfl) ?_)
    refine st_seq (st_asg (es_maxDef (ns := mk cols.length (Sx.wth n s (colF cols))) (d := 0) (ev_var (by rfl))) (by cases c <;> rfl) ?_)
    rintro x ⟨best, rfl, hb⟩
    have at_ : ∀ j, j < cols.length → (mk cols.length (Sx.wth n s (colF cols)))[j]? = some (Sx.wth n s (colF cols) j) := fun j hj => by unfold mk; rw [List.getElem?_map, List.getElem?_range hj]; rfl
    refine st_seq (st_if1 (p := decide (best ≤ 0)) (et_test (ev_op (ev_var (by rfl)) ev_c fun C k => rv_ib rfl k)) (fun hq => ?_) fun hq => ?_)
    · have le : best ≤ 0 := of_decide_eq_true hq
      have none_ : Sx.ent n cols.length s (colF cols) = none := Sx.ent_none fun j hj => by
        rcases hb with ⟨z, _⟩ | ⟨_, mx⟩
        · have := congrArg List.length z
          rw [mk_len] at this
          have : cols.length = 0 := by simpa using this
          omega
        · have := mx _ (List.mem_of_getElem? (at_ j hj))
          omega
      refine ⟨bas Cb (stB n s), by rfl, ?_⟩
      rw [he, gatB_stuck none_] at h
      exact h
    · have gt : 0 < best := by have := of_decide_eq_false hq; omega
      simp only [dNext]
      obtain ⟨hin, mx⟩ : best ∈ mk cols.length (Sx.wth n s (colF cols)) ∧ ∀ y ∈ mk cols.length (Sx.wth n s (colF cols)), y ≤ best := by
        rcases hb with ⟨_, z⟩ | z
        · omega
        · exact z
      obtain ⟨j0, hj0⟩ := List.mem_iff_getElem?.mp hin
      have lj0 : j0 < cols.length := by have := (List.getElem?_eq_some_iff.mp hj0).1; rwa [mk_len] at this
      rw [at_ j0 lj0] at hj0
      obtain ⟨j, jle, pj, before⟩ := least (P := fun j => Sx.wth n s (colF cols) j = best) (k := j0) (by simpa using hj0)
      have jl : j < cols.length := by omega
      have ie : Sx.IsEnt n cols.length s (colF cols) j := ⟨jl, by rw [pj]; exact gt, fun i hi => by rw [pj]; exact mx _ (List.mem_of_getElem? (at_ i hi)), fun i hi => by
        have h1 := mx _ (List.mem_of_getElem? (at_ i (by omega)))
        have h2 := before i hi
        rw [pj]; omega⟩
      obtain ⟨r, hp, hr, lead, least_⟩ := Sx.Good.pk_ok G ie.2.1
      have cl := colF_len cg.ok jl
      have cat : (cols.map spD)[j]? = some (spD (cols.getD j [])) := by rw [cols_range, List.getElem?_map, List.getElem?_range jl]; rfl
      refine st_seq (st_asg1 (d := .int (j : Nat)) (ev_index (ns := mk cols.length (Sx.wth n s (colF cols))) (b := best) (by rfl) (by rfl) (by rw [at_ j jl, pj]) fun k' z hk hz => by
        rw [at_ k' (by omega)] at hz
        cases hz
        exact before k' hk) (by cases d <;> rfl) ?_)
      refine st_seq (st_asg1 (d := lstD (mk n (s.lift n (colF cols j)))) (es_methV (by rfl) asRec_bas rfl (ea_cons (ev_op (ev_var (by rfl)) (ev_var (by rfl)) fun C k => rv_ixL (atI_nat cat) k) ea_nil) rfl fun K k => ⟨n, s, cols.getD j [], rfl, n60, rfl, cl, cols_small cg jl, k _ rfl⟩) (by cases g <;> rfl) ?_)
      refine st_methO (by rfl) rfl (ea_cons (es_callV (S := fun x => x = .int (r : Nat)) (by rfl) asRec_bas (ea_cons (ev_var (by rfl)) ea_nil) rfl fun K k => ⟨n, s, s.lift n (colF cols j), rfl, n60, G.bnd cg, G.lift cg jl, rfl, by rw [hp]; exact k _ rfl⟩) (ea_cons (ev_var (by rfl)) (ea_cons (ev_var (by rfl)) ea_nil))) rfl ?_
      refine ⟨n, s, r, colF cols j, j, rfl, n60, hr, G.bnd cg, G.lift cg jl, G.U.pos, lead, rfl, keepE_set, ?_⟩
      have G2 := G.next hr jl lead least_
      have lt := G.less hr jl lead least_ ie.2.1
      obtain ⟨f', rfl⟩ : ∃ f', f = f' + 1 := ⟨f - 1, by omega⟩
      exact ⟨_, by rw [hm]; exact lt, s.next n (colF cols j) r j, f', some (lstD (mk n (s.price n))), some (lstD (mk cols.length (Sx.wth n s (colF cols)))), some (.int best), some (.int (j : Nat)), some (lstD (mk n (s.lift n (colF cols j)))), rfl, by omega, by rw [he, gatB_step lack (Sx.ent_some ie) hp], G2, by rfl⟩
  · obtain ⟨hb, hl⟩ := Bool.or_eq_false_iff.mp hl
    subst hb
    have lack : ¬ 0 < s.lack n := of_decide_eq_false hl
    refine ⟨bas Cb (stB n s), by rfl, ?_⟩
    have e0 : gatB false n cols.length (colF cols) f s = s := Sx.gat_done (by omega) f
    rw [he, e0] at h
    exact h
section
variable {P : Program} {w : World} {K : PySem.W.Frag} {mg : Str → Option Value} {base : Heap}
theorem sc_gather : FnScope ["basis", "columns", "whole", "prices", "worths", "best", "entering", "lift"] ["basis", "columns", "whole"] (defScope (top 26)) := ⟨rfl, rfl, rfl, by decide +kernel, rfl, by decide +kernel, by decide +kernel⟩
theorem ok_gather (T : Top P w K mg) : Fn P w K mg base 3 "gather" ["basis", "columns", "whole"] (OSp 3 (w_gather (He.ga K "Basis"))) := by
  obtain ⟨fd, F⟩ := T.fn 15 (x := "gather") (st := (top 26)) rfl
  have sc := sc_gather
  have tm : ∀ x, x ∈ frees → mg x = none := fun x hx => T.free x (mem_free hx)
  refine ⟨⟨fd, F.ok sc (fun vs H Q E h => h.len) (fun cdv A outer s H vs Q E hr h => ?d), F.bindsN fun _ _ _ _ _ _ us hl => match us, hl with | [_, _, _], _ => rfl⟩, T.glo "gather" (mem_glo (by decide +kernel)), F.kp⟩
  exact ⟨_, PSs.nox (pss_one (ps_while PassesOwn.never (PW.pt (pw_or (pt_val (pv 2)) (pw_or1 (pt_cmpR op_gt (pe_methV (pe_m0 (clsB T) (methB T "lack" (by decide +kernel)) (ok_Basis_lack T) (hr.mono (by decide)) (pv 0))) pe_int (nomark _))))) (pss_cons (ps_set (i := 3) sc.nd rfl (by first | exact Or.inl rfl | exact Or.inr rfl) (pe_methV (pe_m0 (clsB T) (methB T "stand_in_prices" (by decide +kernel)) (ok_Basis_stand_in_prices T) hr (pv 0)))) (pss_cons (ps_set (i := 4) sc.nd rfl (by first | exact Or.inl rfl | exact Or.inr rfl) (pe_f (ok_prices_of T) (hr.mono (by decide)) rfl (pa_cons (pv 3) (pa_cons (pv 1) pa_nil)))) (pss_cons (ps_set (i := 5) sc.nd rfl (by first | exact Or.inl rfl | exact Or.inr rfl) (pe_maxDef (K := K) (pe_callBK (cr_maxDef rfl (hu_of hr)) (by rfl) (tm "max" (by decide +kernel)) (by decide +kernel) (pa_cons (pv 4) pa_nil) (pk_cons pe_int pk_nil)))) (pss_cons (ps_if (pt_cmpR op_le (pv 5) pe_int (nomark _)) (pss_one ps_retN) pss_nil) (pss_cons (ps_set (i := 6) sc.nd rfl (by first | exact Or.inl rfl | exact Or.inr rfl) (pe_index (K := K) (K2 := K) (pe_bm PySem.F.plainAttrs_list PySem.F.slot_list_index PySem.F.type_list_index mt_index (pv 4) (pa_cons (pv 5) pa_nil)))) (pss_cons (ps_set (i := 7) sc.nd rfl (by first | exact Or.inl rfl | exact Or.inr rfl) (pe_methV (pe_m (clsB T) (methB T "lifted" (by decide +kernel)) (ok_Basis_lifted T) (hr.mono (by decide)) (pv 0) (pa_cons (pe_ix (show IxR _ (fun x y H Q => rIxL K x y H Q ∨ rIxT K x y H Q) from ix_any) (pv 1) (pv 6) (fun _ _ => rfl)) pa_nil)))) (pss_one (ps_expr (pe_methO (pe_m (clsB T) (methB T "pivot" (by decide +kernel)) (ok_Basis_pivot T) (hr.mono (by decide)) (pv 0) (pa_cons (pe_callV (pe_f (ok_leaving T) hr (by rfl) (pa_cons (pv 0) (pa_cons (pv 7) pa_nil)))) (pa_cons (pv 7) (pa_cons (pv 6) pa_nil))))))))))))))), os_body h (ds := (r_gather (He.ga K "Basis"))) inferInstance (body_gather (He.ga K "Basis"))⟩

end
end K04
set_option Elab.async false
set_option linter.all false
set_option maxRecDepth 100000
set_option maxHeartbeats 4000000
set_option synthInstance.maxHeartbeats 4000000
set_option synthInstance.maxSize 100000
namespace K04
open PySem PySem.Spec PyProof.Rows L2 RZ Lf
def w_scaled_down : PW := fun ds C => ∃ (x : D) (s : Int) (r : List Int), ds = [.int s, x] ∧ x.items? = some (r.map .int) ∧ r.length ≤ 900 ∧ Wide (s :: r) ∧ C (.tup [.int ((Sx.red (s :: r)).headD 0), rowD (Sx.red (s :: r)).tail])
def r_scaled_down : DS := (dSeq (dAsg (dCallP 1 w_reduced (dCons (dTup (dCons (dVar 0) (dStar (dVar 1) dNil))) dNil)) (dgN 2)) (dRet (dTup (dCons (dOp dIx (dVar 2) (dC (.int 0))) (dCons (dSl (dVar 2) (some (dC (.int 1))) none) dNil)))))
theorem ev_tail {env : Lf.Env} {a : DE} {x : D} {xs : List D} (h : Ev a env (.tup (x :: xs))) : Ev (dSl a (some (dC (.int 1))) none) env (.tup xs) := fun C k => h _ fun _ e => by
  subst e
  refine ⟨1, rfl, .inr ⟨_, rfl, ?_⟩⟩
  have e2 : Lf.cutD (x :: xs) (some 1) none = xs := by
    unfold Lf.cutD
    have : HT.sIx (x :: xs).length 0 (some 1) = 1 := by
      show HT.sIx _ 0 (some ((1 : Nat) : Int)) = 1
      rw [HT.sIx_nat, List.length_cons]; omega
    rw [this, HT.sIx_none]
    simp
  rw [e2]
  exact k _ rfl
theorem red_cons (s : Int) (r : List Int) : ∃ t u, Sx.red (s :: r) = t :: u := by
  have := Sx.red_len (s :: r)
  cases h : Sx.red (s :: r) with
  | nil => rw [h] at this; simp at this
  | cons t u => exact ⟨t, u, rfl⟩
theorem body_scaled_down : ∀ (as : List D) (C : D → Prop), as.length = 2 → w_scaled_down as C → r_scaled_down (env0 (["scale", "row", "told"].length - 2) as) { nx := fun _ => C .non, rt := fun d _ => C d } := by
  rintro as C _ ⟨x, s, r, rfl, hx, hl, hw, h⟩
  obtain ⟨t, u, e⟩ := red_cons s r
  rw [e] at h
  refine st_seq (st_asg1 (d := rowD (t :: u)) (ev_call (ea_cons (ev_tup (ea_cons (ev_var (by rfl)) (ea_star (ev_var (by rfl)) hx ea_nil)) (by simp; omega)) ea_nil) rfl fun C k => ⟨_, s :: r, rfl, by simp [D.items?], by simp; omega, hw, by rw [e]; exact k⟩) (by rfl) ?_)
  dsimp only
  refine st_ret1 (d := .tup [.int t, rowD u]) ?_ h
  exact ev_tup (ea_cons (ev_op (ev_var (by rfl)) ev_c fun C k => rv_ixT (xs := (t :: u).map .int) (i := ((0 : Nat) : Int)) (atI_nat rfl) k) (ea_cons (ev_tail (x := .int t) (ev_var (by rfl))) ea_nil)) (by show 2 ≤ 100000; decide)
/-- counts of a state -/
def cnts (n m : Nat) (s : Sx.St) : List Int := mk m (s.count n)
def w_told_deal (Cb : Addr) : OW := fun w ds K => ∃ n cols goal s, w = recO Cb (stB n s).flds ∧ CG n cols goal ∧ GoodS n cols goal s ∧ ds = [.int (cols.length : Nat)] ∧
  K (.tup [.int ((Sx.red (s.d :: cnts n cols.length s)).headD 0), rowD (Sx.red (s.d :: cnts n cols.length s)).tail]) (recO Cb (stB n s).flds)
def r_told_deal (C : Addr) : DS := (dSeq (dAsgO (dNewRep (.int 0) (dVar 1)) 2) (dSeq (dFor (diZipS (dCons (dFld C 0 "members") (dCons (dFld C 0 "levels") dNil))) (dgTup 2 (dgCons (dgN 3) (dgCons (dgN 4) dgNil))) (dIfS (dTest (dOp dNotN (dVar 3) (dC .non))) (dSetO 2 3 (dVar 4)) dNext)) (dFrz 2 (dRet (dCallP 2 w_scaled_down (dCons (dFld C 0 "scale") (dCons (dVar 2) dNil)))))))
/-- the counts behind the first i rows -/
def cntI (i : Nat) (s : Sx.St) (j : Nat) : Int := Sx.sm i fun k => if s.M k = some j then s.L k else 0
theorem cnt_step {n : Nat} {cols : List (List Int)} {goal : List Int} {s : Sx.St} (G : GoodS n cols goal s) {i j : Nat} (hi : i < n) (h : s.M i = some j) : cntI i s j = 0 := Sx.sm_zero fun k hk => by
  split
  · next e => have := G.members (by omega) hi e h; omega
  · rfl
theorem body_told_deal (Cb : Addr) : ∀ (w : Ow) (as : List D) (C : D → Ow → Prop), as.length + 1 = 2 → w_told_deal Cb w as C →
    r_told_deal Cb (some (.o w) :: env0 (["basis", "many", "counts", "member", "level"].length - 2) as) { nx := fun env' => ∃ w', env'[0]? = some (some (.o w')) ∧ C .non w', rt := fun d env' => ∃ w', env'[0]? = some (some (.o w')) ∧ C d w' } := by
  rintro w as C _ ⟨n, cols, goal, s, rfl, cg, G, rfl, h⟩
  have n60 := cg.ok.n60
  have few := cg.ok.few
  have bnd := G.bnd cg
  refine st_seq (st_asgO (T := fun xs => xs = List.replicate cols.length (.int 0)) (ea_rep (ev_var (by rfl)) (by omega)) (by rfl) ?_)
  rintro xs rfl
  have z0 : List.replicate cols.length (D.int 0) = (mk cols.length (cntI 0 s)).map .int := by
    have := rep_zero cols.length
    rw [flat_rep] at this
    exact this
  rw [z0]
  dsimp only
  refine st_seq (st_for (xs := (List.range n).map fun k => .tup [memD (s.M k), .int (s.L k)]) (fun i e => ∃ t u : Option D, i ≤ n ∧ e = [some (.o (recO Cb (stB n s).flds)), some (.d (.int (cols.length : Nat))), some (.l ((mk cols.length (cntI i s)).map .int)), t.map .d, u.map .d]) ?_ ⟨none, none, Nat.zero_le _, by rfl⟩ ?_ ?_)
  · rw [← zip_range]
    exact ei_zip (p := false) (q := false) (ea_cons (ev_fld (by rfl) (fl_members n s)) (ea_cons (ev_fld (by rfl) (fl_levels n s)) ea_nil)) rfl rfl
  · rintro i x e hx ⟨t, u, _, rfl⟩
    have hlt : i < n := by
      have := (List.getElem?_eq_some_iff.mp hx).1
      simpa using this
    have ex : x = .tup [memD (s.M i), .int (s.L i)] := by
      rw [List.getElem?_map, List.getElem?_range hlt] at hx
      simpa using hx.symm
    subst ex
    refine ⟨_, tg_two (by cases t <;> rfl) (by cases t <;> cases u <;> rfl), ?_⟩
    refine st_if1 (p := !decide (s.M i = none)) (et_test (ev_op (ev_var (by rfl)) ev_c fun C k => rv_notN (by rw [memD_isN]) k)) (fun hq => ?_) fun hq => ?_
    · obtain ⟨j, hj⟩ : ∃ j, s.M i = some j := by
        cases q : s.M i with
        | none => simp [q] at hq
        | some j => exact ⟨j, rfl⟩
      have jl := G.inn i hlt j hj
      refine st_setO (d := .int (s.L i)) (k := j) (ev_var (by rfl)) (by rfl) (by rw [hj]; rfl) (by rw [List.length_map, mk_len]; exact jl) ⟨some (memD (s.M i)), some (.int (s.L i)), hlt, ?_⟩
      have e : ((mk cols.length (cntI i s)).map D.int).set j (.int (s.L i)) = (mk cols.length (cntI (i + 1) s)).map D.int := by
        rw [mk_int, mk_int, range_set]
        refine List.map_congr_left fun k _ => ?_
        show _ = D.int (cntI i s k + if s.M i = some k then s.L i else 0)
        by_cases z : k = j
        · subst z
          rw [if_pos rfl, if_pos hj, cnt_step G hlt hj]; simp
        · have : ¬ s.M i = some k := fun q => z (by rw [hj] at q; simpa using q.symm)
          rw [if_neg z, if_neg this]; simp
      rw [e]; rfl
    · refine ⟨some (memD (s.M i)), some (.int (s.L i)), hlt, ?_⟩
      have hM : s.M i = none := by simpa using hq
      have e : mk cols.length (cntI (i + 1) s) = mk cols.length (cntI i s) := mk_congr fun k _ => by
        show cntI i s k + (if s.M i = some k then s.L i else 0) = _
        rw [hM]; simp
      rw [e]; rfl
  · rintro e ⟨t, u, _, rfl⟩
    rw [List.length_map, List.length_range]
    have wd : Wide (s.d :: cnts n cols.length s) := wide_of fun x hx => by
      rcases List.mem_cons.mp hx with rfl | hx
      · exact bnd.d
      · obtain ⟨j, hj, rfl⟩ := List.mem_map.mp hx
        by_cases q : ∃ k, k < n ∧ s.M k = some j
        · obtain ⟨k, hk, e⟩ := q
          rw [G.count_at hk e]; exact bnd.L k hk
        · have : s.count n j = 0 := Sx.sm_zero fun k hk => by
            split
            · next e => exact absurd ⟨k, hk, e⟩ q
            · rfl
          rw [this]; exact Nat.two_pow_pos _
    refine st_frz (xs := (mk cols.length (cntI n s)).map .int) (by rfl) ?_
    exact st_ret1 (ev_call (ea_cons (ev_fld (by rfl) (fl_scale n s)) (ea_cons (ev_var (by rfl)) ea_nil)) rfl fun C k => ⟨_, s.d, cnts n cols.length s, rfl, rfl, by show (mk _ _).length ≤ 900; rw [mk_len]; omega, wd, k⟩) ⟨_, by rfl, h⟩
section
variable {P : Program} {w : World} {K : PySem.W.Frag} {mg : Str → Option Value} {base : Heap}
theorem sc_scaled_down : FnScope ["scale", "row", "told"] ["scale", "row"] (defScope (top 18)) := ⟨rfl, rfl, rfl, by decide +kernel, rfl, by decide +kernel, by decide +kernel⟩
theorem ok_scaled_down (T : Top P w K mg) : Fn P w K mg base 3 "scaled_down" ["scale", "row"] (PSp 2 w_scaled_down) := by
  obtain ⟨fd, F⟩ := T.fn 9 (x := "scaled_down") (st := (top 18)) rfl
  have sc := sc_scaled_down
  have tm : ∀ x, x ∈ frees → mg x = none := fun x hx => T.free x (mem_free hx)
  refine ⟨⟨fd, F.ok sc (fun vs H Q E h => h.len) (fun cdv A outer s H vs Q E hr h => ?d), F.bindsN fun _ _ _ _ _ _ us hl => match us, hl with | [_, _], _ => rfl⟩, T.glo "scaled_down" (mem_glo (by decide +kernel)), F.kp⟩
  exact ⟨_, PSs.nox (pss_cons (ps_set (i := 2) sc.nd rfl (by first | exact Or.inl rfl | exact Or.inr rfl) (pe_f (ok_reduced T) hr rfl (pa_cons (pe_tup (pa_cons (pv 0) (StX.pa_star (pv 1) pa_nil))) pa_nil))) (pss_one (ps_ret (pe_tup (pa_cons (pe_ix (show IxR _ (fun x y H Q => rIxL K x y H Q ∨ rIxT K x y H Q) from ix_any) (pv 2) pe_int (fun _ _ => rfl)) (pa_cons (pe_slice (show SlR _ (rSlQ K) from sb_any) (pv 2) (po_some pe_int) po_none) pa_nil)))))), ps_body h (ds := r_scaled_down) inferInstance body_scaled_down⟩
theorem sc_told_deal : FnScope ["basis", "many", "counts", "member", "level"] ["basis", "many"] (defScope (top 30)) := ⟨rfl, rfl, rfl, by decide +kernel, rfl, by decide +kernel, by decide +kernel⟩
theorem ok_told_deal (T : Top P w K mg) : Fn P w K mg base 4 "told_deal" ["basis", "many"] (OSp 2 (w_told_deal (He.ga K "Basis"))) := by
  obtain ⟨fd, F⟩ := T.fn 19 (x := "told_deal") (st := (top 30)) rfl
  have sc := sc_told_deal
  have tm : ∀ x, x ∈ frees → mg x = none := fun x hx => T.free x (mem_free hx)
  refine ⟨⟨fd, F.ok sc (fun vs H Q E h => h.len) (fun cdv A outer s H vs Q E hr h => ?d), F.bindsN fun _ _ _ _ _ _ us hl => match us, hl with | [_, _], _ => rfl⟩, T.glo "told_deal" (mem_glo (by decide +kernel)), F.kp⟩
  exact ⟨_, PSs.nox (pss_cons (ps_own (ps_set (i := 2) sc.nd rfl (by first | exact Or.inl rfl | exact Or.inr rfl) (pe_repO (K := K) (pe_op (show OpR _ _ (rbMul K) from ob_mul) (pe_lst (pa_cons pe_int pa_nil)) (pv 1))))) (pss_cons (ps_for PassesOwn.never rfl (pi_zipS rfl (tm "zip" (by decide +kernel)) (pa_cons (pe_fldC (clsB T) (noatB T "members" (by decide +kernel)) (pv 0)) (pa_cons (pe_fldC (clsB T) (noatB T "levels" (by decide +kernel)) (pv 0)) pa_nil))) (pg_tup (n := 2) rfl (pgs_cons (pg_name (i := 3) sc.nd rfl (by first | exact Or.inl rfl | exact Or.inr rfl)) (pgs_cons (pg_name (i := 4) sc.nd rfl (by first | exact Or.inl rfl | exact Or.inr rfl)) pgs_nil))) (pss_one (ps_if (pt_cmpR op_notN1 (pv 3) pe_non (nomark _)) (pss_one (ps_setO (ps_asg (pv 4) (pg_sub (pv 2) (pv 3) set_list)))) pss_nil))) (pss_frz 2 (pss_one (ps_ret (pe_f (ok_scaled_down T) hr rfl (pa_cons (pe_fldC (clsB T) (noatB T "scale" (by decide +kernel)) (pv 0)) (pa_cons (pv 2) pa_nil)))))))), os_body h (ds := (r_told_deal (He.ga K "Basis"))) inferInstance (body_told_deal (He.ga K "Basis"))⟩

end
end K04
set_option Elab.async false
set_option linter.all false
set_option maxRecDepth 100000
set_option maxHeartbeats 4000000
set_option synthInstance.maxHeartbeats 4000000
set_option synthInstance.maxSize 100000
namespace K04
open PySem PySem.Spec PyProof.Rows L2 RZ Lf
section
variable {env : Lf.Env} {a : DE} {da : DA} {S : D → Prop} {E : DEnds} {s1 : DS} {i j : Nat}
theorem es_key {x : Str} (h : env[i]? = some (some (.o drw))) (hx : x = ("rest" : Str) ∨ x = ("turn" : Str)) : Es (dKey i x) env fun d => ∃ n : Int, 0 ≤ n ∧ d = .int n := fun C k => ⟨h, .inl ⟨hx, fun n hn => k _ ⟨n, hn, rfl⟩⟩⟩
theorem es_cells (h : env[i]? = some (some (.o drw))) : Es (dKey i "cells") env fun d => ∃ ns : List Int, (∀ n ∈ ns, 0 ≤ n) ∧ d = .lst (ns.map .int) := fun C k => ⟨h, .inr ⟨rfl, fun ns hn => k _ ⟨ns, hn, rfl⟩⟩⟩
theorem ea_consS {A : D → Prop} {B : List D → Prop} (h : Es a env A) (h2 : Ea da env B) : Ea (dCons a da) env fun ds => ∃ x r, A x ∧ B r ∧ ds = x :: r := fun C k => h _ fun x hx => h2 _ fun r hr => k _ ⟨x, r, hx, hr, rfl⟩
theorem st_parS {T : List D → Prop} (h : Ea da env T) (f1 : free env i = true) (f2 : free env j = true) (k : ∀ ds, T ds → ∃ x y, ds = [x, y] ∧ E.nx ((env.set i (some (.d x))).set j (some (.d y)))) : dPar i j da env E := h _ fun ds hd => let ⟨x, y, e, q⟩ := k ds hd; ⟨keepE_refl, x, y, e, f1, f2, q⟩
theorem st_put {x : Str} (h : Es a env fun d => ∃ n : Int, 0 ≤ n ∧ d = .int n) (ho : env[i]? = some (some (.o drw))) (hx : x = ("rest" : Str) ∨ x = ("turn" : Str)) (k : E.nx env) : dPutO i x a env E := h _ fun d ⟨n, hn, e⟩ => ⟨keepE_refl, ho, hx, n, e, hn, k⟩
theorem ei_seqS {T : List D → Prop} (h : Es a env fun d => ∃ xs, d.items? = some xs ∧ T xs) : Ei (diSeq a) env T := fun C k => h _ fun d ⟨xs, e, hx⟩ => ⟨xs, e, k xs hx⟩
theorem st_forS {di : DI} {dg : DG} {T : List D → Prop} (hi : Ei di env T) (h : ∀ xs, T xs → ∃ W : Nat → Lf.Env → Prop, W 0 env ∧ (∀ i x e, xs[i]? = some x → W i e → ∃ e2, Tg dg x e e2 ∧ s1 e2 { nx := W (i + 1), ct := W (i + 1), bk := E.nx, rt := E.rt }) ∧ ∀ e, W xs.length e → E.nx e) : dFor di dg s1 env E :=
  hi _ fun xs hx => by
    obtain ⟨W, h0, h1, h2⟩ := h xs hx
    exact ⟨keepE_refl, W, h0, fun i e hw => ⟨fun x hx => let ⟨e2, q1, q2⟩ := h1 i x e hx hw; q1 _ q2, fun el => h2 e (el ▸ hw)⟩⟩
end
def w_law_blend : OW := fun w ds C => w = drw ∧ ds = [] ∧ ∀ n : Int, 0 ≤ n → C (.int n) drw
def r_law_blend : DS := (dSeq (dPar 2 3 (dCons (dOp dbAdd (dKey 0 "turn") (dC (.int 1))) (dCons (dC (.int 0)) dNil))) (dSeq (dPutO 0 "turn" (dVar 2)) (dSeq (dFor (diSeq (dLst (dCons (dC (.int 2147483629)) (dCons (dC (.int 2147483587)) (dCons (dC (.int 2147483579)) dNil))))) (dgN 1) (dSeq (dAsg (dOp (rIIc (fun _ j => 0 < j) fun i j => i % j) (dCB dInt1 (dCons (dOp dbAdd (dOp dbMul (dVar 2) (dC (.int 69621))) (dOp dbFdiv (dVar 1) (dC (.int 7)))) dNil)) (dVar 1)) (dgN 4)) (dSeq (dFor (diSeq (dKey 0 "cells")) (dgN 5) (dAsg (dOp (rIIc (fun _ j => 0 < j) fun i j => i % j) (dCB dInt1 (dCons (dOp dbAdd (dOp dbAdd (dOp dbMul (dVar 4) (dC (.int 48271))) (dCB dInt1 (dCons (dVar 5) dNil))) (dC (.int 1))) dNil)) (dVar 1)) (dgN 4))) (dAsg (dOp dbAdd (dOp dbMul (dVar 3) (dC (.int 2147483647))) (dOp (rIIc (fun _ j => 0 < j) fun i j => i % j) (dCB dInt1 (dCons (dOp (rIIc CPow fun i j => i ^ j.toNat) (dVar 4) (dC (.int 5))) dNil)) (dVar 1))) (dgN 3))))) (dRet (dVar 3)))))
theorem mod_rng {i p : Int} (h : 0 < p) : 0 ≤ i % p ∧ i % p < p := ⟨Int.emod_nonneg _ (by omega), Int.emod_lt_of_pos _ h⟩
theorem body_law_blend : ∀ (w : Ow) (as : List D) (C : D → Ow → Prop), as.length + 1 = 1 → w_law_blend w as C →
    r_law_blend (some (.o w) :: env0 (["draw", "prime", "turn", "found", "mixed", "cell"].length - 1) as) { nx := fun env' => ∃ w', env'[0]? = some (some (.o w')) ∧ C .non w', rt := fun d env' => ∃ w', env'[0]? = some (some (.o w')) ∧ C d w' } := by
  rintro w as C _ ⟨rfl, rfl, h⟩
  refine st_seq (st_parS (T := fun ds => ∃ n : Int, 0 ≤ n ∧ ds = [.int n, .int 0]) (fun C k => ?_) (by rfl) (by rfl) ?_)
  · refine ea_consS (A := fun d => ∃ n : Int, 0 ≤ n ∧ d = .int n) (B := fun ds => ds = [.int 0]) ?_ (ea_cons ev_c ea_nil) _ ?_
    · exact es_op (A := fun d => ∃ n : Int, 0 ≤ n ∧ d = .int n) (B := fun d => d = .int 1) (es_key (by rfl) (.inr rfl)) ev_c fun x y ⟨n, hn, ex⟩ ey C k => by subst ex ey; exact rv_add rfl (k (.int (n + 1)) ⟨n + 1, by omega, rfl⟩)
    · rintro ds ⟨x, r, ⟨n, hn, rfl⟩, rfl, rfl⟩
      exact k _ ⟨n, hn, rfl⟩
  rintro ds ⟨turn, ht, rfl⟩
  refine ⟨_, _, rfl, ?_⟩
  refine st_seq (st_put (Es.imp (ev_var (by rfl)) fun d e => ⟨turn, ht, e⟩) (by rfl) (.inr rfl) ?_)
  refine st_seq (st_for (xs := [.int 2147483629, .int 2147483587, .int 2147483579]) (fun i e => ∃ (t u v : Option D) (found : Int), 0 ≤ found ∧ e = [some (.o drw), t.map .d, some (.d (.int turn)), some (.d (.int found)), u.map .d, v.map .d])
    (ei_seq (ev_lst (ea_cons ev_c (ea_cons ev_c (ea_cons ev_c ea_nil))) (by decide)) rfl) ⟨none, none, none, 0, by omega, by rfl⟩ ?_ ?_)
  · rintro i x e hx ⟨t, u, v, found, hf, rfl⟩
    obtain ⟨p, hp, hp2, rfl⟩ : ∃ p : Int, 2 ≤ p ∧ p < 2147483648 ∧ x = .int p := by
      match i, hx with
      | 0, hx => exact ⟨2147483629, by decide, by decide, by simpa using hx.symm⟩
      | 1, hx => exact ⟨2147483587, by decide, by decide, by simpa using hx.symm⟩
      | 2, hx => exact ⟨2147483579, by decide, by decide, by simpa using hx.symm⟩
    refine ⟨_, tg_n (by cases t <;> rfl), ?_⟩
    refine st_seq (st_asg1 (d := .int ((turn * 69621 + p / 7) % p)) ?_ (by cases u <;> rfl) ?_)
    · exact ev_op (ev_cb (ea_cons (ev_op (ev_op (ev_var (by rfl)) ev_c fun C k => rv_mul (.inl (.inr ⟨by decide, by decide⟩)) rfl k) (ev_op (ev_var (by rfl)) ev_c fun C k => rv_fdivW (wide_div (b := 8) (by decide) (by decide) (by decide) (by decide)) rfl k) fun C k => rv_add rfl k) ea_nil) fun C k => cv_int1 k) (ev_var (by rfl)) fun C k => rv_iic (by omega) rfl k
    refine st_seq (st_forS (T := fun xs => ∃ ns : List Int, xs = ns.map .int) (ei_seqS (Es.imp (es_cells (by rfl)) fun d ⟨ns, _, e⟩ => ⟨ns.map .int, by rw [e]; rfl, ns, rfl⟩)) ?_)
    rintro xs ⟨ns, rfl⟩
    refine ⟨fun i e => ∃ (v : Option D) (mixed : Int), 0 ≤ mixed ∧ mixed < p ∧ e = [some (.o drw), some (.d (.int p)), some (.d (.int turn)), some (.d (.int found)), some (.d (.int mixed)), v.map .d], ?_, ?_, ?_⟩
    · exact ⟨v, _, (mod_rng (by omega)).1, (mod_rng (by omega)).2, by rfl⟩
    · rintro j y e hy ⟨v, mixed, m0, m1, rfl⟩
      obtain ⟨c, rfl⟩ : ∃ c, y = .int c := by
        rw [List.getElem?_map] at hy
        cases q : ns[j]? with
        | none => rw [q] at hy; cases hy
        | some c => rw [q] at hy; exact ⟨c, by simpa using hy.symm⟩
      refine ⟨_, tg_n (by cases v <;> rfl), st_asg1 (d := .int ((mixed * 48271 + c + 1) % p)) ?_ (by rfl) ⟨some (.int c), _, (mod_rng (by omega)).1, (mod_rng (by omega)).2, by rfl⟩⟩
      exact ev_op (ev_cb (ea_cons (ev_op (ev_op (ev_op (ev_var (by rfl)) ev_c fun C k => rv_mul (.inl (.inr ⟨by decide, by decide⟩)) rfl k) (ev_cb (ea_cons (ev_var (by rfl)) ea_nil) fun C k => cv_int1 k) fun C k => rv_add rfl k) ev_c fun C k => rv_add rfl k) ea_nil) fun C k => cv_int1 k) (ev_var (by rfl)) fun C k => rv_iic (by omega) rfl k
    · rintro e ⟨v, mixed, m0, m1, rfl⟩
      dsimp only
      refine st_asg1 (d := .int (found * 2147483647 + mixed ^ 5 % p)) ?_ (by rfl) ⟨some (.int p), some (.int mixed), v, _, ?_, by rfl⟩
      · exact ev_op (ev_op (ev_var (by rfl)) ev_c fun C k => rv_mul (.inl (.inr ⟨by decide, by decide⟩)) rfl k) (ev_op (ev_cb (ea_cons (ev_op (ev_var (by rfl)) ev_c fun C k => rv_iic (k := mixed ^ 5) ⟨by decide, by decide, by omega⟩ rfl k) ea_nil) fun C k => cv_int1 k) (ev_var (by rfl)) fun C k => rv_iic (by omega) rfl k) fun C k => rv_add rfl k
      · have := (mod_rng (i := mixed ^ 5) (p := p) (by omega)).1
        omega
  · rintro e ⟨t, u, v, found, hf, rfl⟩
    exact st_ret1 (ev_var (by rfl)) ⟨drw, by rfl, h found hf⟩
section
variable {P : Program} {w : World} {K : PySem.W.Frag} {mg : Str → Option Value} {base : Heap}
theorem sc_law_blend : FnScope ["draw", "prime", "turn", "found", "mixed", "cell"] ["draw"] (defScope (top 46)) := ⟨rfl, rfl, rfl, by decide +kernel, rfl, by decide +kernel, by decide +kernel⟩
theorem ok_law_blend (T : Top P w K mg) : Fn P w K mg base 1 "_law_blend" ["draw"] (OSp 1 w_law_blend) := by
  obtain ⟨fd, F⟩ := T.fn 32 (x := "_law_blend") (st := (top 46)) rfl
  have sc := sc_law_blend
  have tm : ∀ x, x ∈ frees → mg x = none := fun x hx => T.free x (mem_free hx)
  refine ⟨⟨fd, F.ok sc (fun vs H Q E h => h.len) (fun cdv A outer s H vs Q E hr h => ?d), F.bindsN fun _ _ _ _ _ _ us hl => match us, hl with | [_], _ => rfl⟩, T.glo "_law_blend" (mem_glo (by decide +kernel)), F.kp⟩
  exact ⟨_, PSs.nox (pss_cons (ps_par (by rfl) sc.nd rfl rfl (by decide) rfl rfl (pa_cons (pe_op (show OpR _ _ (rbAdd K) from ob_add) (pe_dget (hu_of hr) (pv 0) pe_str (fun _ _ => rfl)) pe_int) (pa_cons pe_int pa_nil)) (by rfl)) (pss_cons (ps_dput (hu_of hr) (pv 0) pe_str (pv 2) rfl) (pss_cons (ps_for PassesOwn.never rfl (pi_seq (pe_lst (pa_cons pe_int (pa_cons pe_int (pa_cons pe_int pa_nil))))) (pg_name (i := 1) sc.nd rfl (by first | exact Or.inl rfl | exact Or.inr rfl)) (pss_cons (ps_set (i := 4) sc.nd rfl (by first | exact Or.inl rfl | exact Or.inr rfl) (pe_op op_mod (pe_callTy cl_int (by rfl) (tm "int" (by decide +kernel)) (by decide +kernel) (pa_cons (pe_op (show OpR _ _ (rbAdd K) from ob_add) (pe_op (show OpR _ _ (rbMul K) from ob_mul) (pv 2) pe_int) (pe_op ob_fdiv (pv 1) pe_int)) pa_nil)) (pv 1))) (pss_cons (ps_for PassesOwn.never rfl (pi_seq (pe_dget (hu_of hr) (pv 0) pe_str (fun _ _ => rfl))) (pg_name (i := 5) sc.nd rfl (by first | exact Or.inl rfl | exact Or.inr rfl)) (pss_one (ps_set (i := 4) sc.nd rfl (by first | exact Or.inl rfl | exact Or.inr rfl) (pe_op op_mod (pe_callTy cl_int (by rfl) (tm "int" (by decide +kernel)) (by decide +kernel) (pa_cons (pe_op (show OpR _ _ (rbAdd K) from ob_add) (pe_op (show OpR _ _ (rbAdd K) from ob_add) (pe_op (show OpR _ _ (rbMul K) from ob_mul) (pv 4) pe_int) (pe_callTy cl_int (by rfl) (tm "int" (by decide +kernel)) (by decide +kernel) (pa_cons (pv 5) pa_nil))) pe_int) pa_nil)) (pv 1))))) (pss_one (ps_set (i := 3) sc.nd rfl (by first | exact Or.inl rfl | exact Or.inr rfl) (pe_op (show OpR _ _ (rbAdd K) from ob_add) (pe_op (show OpR _ _ (rbMul K) from ob_mul) (pv 3) pe_int) (pe_op op_mod (pe_callTy cl_int (by rfl) (tm "int" (by decide +kernel)) (by decide +kernel) (pa_cons (pe_op op_pow (pv 4) pe_int) pa_nil)) (pv 1)))))))) (pss_one (ps_ret (pv 3)))))), os_body h (ds := r_law_blend) inferInstance body_law_blend⟩

end
end K04
set_option Elab.async false
set_option linter.all false
set_option maxRecDepth 100000
set_option maxHeartbeats 4000000
set_option synthInstance.maxHeartbeats 4000000
set_option synthInstance.maxSize 100000
namespace K04
open PySem PySem.Spec PyProof.Rows L2 RZ Lf
section
variable {env : Lf.Env} {da : DA} {S : D → Prop} {E : DEnds} {i : Nat}
theorem es_callO {n : Nat} {ow : OW} {w : Ow} {ds : List D} (hw : env[i]? = some (some (.o w))) (h : EvA da env ds) (l : ds.length + 1 = n) (k : ∀ C : D → Ow → Prop, (∀ d, S d → C d w) → ow w ds C) : Es (dCallO n ow i da) env S := fun C q =>
  ⟨⟨w, hw⟩, h _ fun _ e => by
    subst e
    refine ⟨l, keepE_refl, w, hw, k _ fun d hd => ?_⟩
    rw [set_self hw]
    exact q d hd⟩
theorem st_drain (h : env[i]? = some (some (.o drw))) (k : E.nx env) : dDrain i "rest" "large" 0 0 env E := ⟨h, rfl, rfl, rfl, rfl, k⟩
end
/-- any number below the size -/
def w_law_take : OW := fun w ds C => w = drw ∧ ∃ size : Int, 1 ≤ size ∧ size < 1073741824 ∧ ds = [.int size] ∧ ∀ k : Int, 0 ≤ k → k < size → C (.int k) drw
def r_law_take : DS := (dSeq (dDrain 0 "rest" "large" 0 0) (dSeq (dIfS (dTest (dOp dEqD (dKey 0 "rest") (dC (.int 0)))) (dPutO 0 "rest" (dCallO 1 w_law_blend 0 dNil)) dNext) (dSeq (dAsg (dOp (rIIc (fun _ j => 0 < j) fun i j => i % j) (dCB dInt1 (dCons (dKey 0 "rest") dNil)) (dVar 1)) (dgN 2)) (dSeq (dPutO 0 "rest" (dOp dbFdiv (dCB dInt1 (dCons (dKey 0 "rest") dNil)) (dVar 1))) (dRet (dVar 2))))))
theorem tail {size : Int} {C : D → Ow → Prop} (h1 : 1 ≤ size) (h2 : size < 1073741824) (h : ∀ k : Int, 0 ≤ k → k < size → C (.int k) drw) :
    (dSeq (dAsg (dOp (rIIc (fun _ j => 0 < j) fun i j => i % j) (dCB dInt1 (dCons (dKey 0 "rest") dNil)) (dVar 1)) (dgN 2)) (dSeq (dPutO 0 "rest" (dOp dbFdiv (dCB dInt1 (dCons (dKey 0 "rest") dNil)) (dVar 1))) (dRet (dVar 2)))) [some (.o drw), some (.d (.int size)), none] { nx := fun env' => ∃ w', env'[0]? = some (some (.o w')) ∧ C .non w', rt := fun d env' => ∃ w', env'[0]? = some (some (.o w')) ∧ C d w' } := by
  have hk : ∀ env : Lf.Env, env[0]? = some (some (.o drw)) → Es (dCB dInt1 (dCons (dKey 0 "rest") dNil)) env fun d => ∃ n : Int, 0 ≤ n ∧ d = .int n := fun env he =>
    es_cb (T := fun ds => ∃ n : Int, 0 ≤ n ∧ ds = [.int n]) (fun C k => es_cons1 (es_key he (.inl rfl)) _ fun ds ⟨x, ⟨n, hn, ex⟩, e⟩ => k _ ⟨n, hn, by rw [e, ex]⟩) fun ds ⟨n, hn, e⟩ C k => by subst e; exact cv_int1 (k _ ⟨n, hn, rfl⟩)
  refine st_seq (st_asg (S := fun d => ∃ k : Int, 0 ≤ k ∧ k < size ∧ d = .int k) (es_op (A := fun d => ∃ n : Int, 0 ≤ n ∧ d = .int n) (B := fun d => d = .int size) (hk _ (by rfl)) (ev_var (by rfl)) fun x y ⟨n, hn, ex⟩ ey C k => by
    subst ex ey; exact rv_iic (by omega) rfl (k _ ⟨_, (mod_rng (by omega)).1, (mod_rng (by omega)).2, rfl⟩)) (by rfl) ?_)
  rintro d ⟨k, k0, k1, rfl⟩
  refine st_seq (st_put (es_op (A := fun d => ∃ n : Int, 0 ≤ n ∧ d = .int n) (B := fun d => d = .int size) (hk _ (by rfl)) (ev_var (by rfl)) fun x y ⟨n, hn, ex⟩ ey C k => by
    subst ex ey; exact rv_fdivN ⟨by omega, by omega⟩ rfl (k _ ⟨n.fdiv size, Int.fdiv_nonneg hn (by omega), rfl⟩)) (by rfl) (.inl rfl) ?_)
  exact st_ret1 (ev_var (by rfl)) ⟨drw, by rfl, h k k0 k1⟩
theorem body_law_take : ∀ (w : Ow) (as : List D) (C : D → Ow → Prop), as.length + 1 = 2 → w_law_take w as C →
    r_law_take (some (.o w) :: env0 (["draw", "size", "found"].length - 2) as) { nx := fun env' => ∃ w', env'[0]? = some (some (.o w')) ∧ C .non w', rt := fun d env' => ∃ w', env'[0]? = some (some (.o w')) ∧ C d w' } := by
  rintro w as C _ ⟨rfl, size, h1, h2, rfl, h⟩
  refine st_seq (st_drain (by rfl) ?_)
  refine st_seq (st_if (T := fun _ => True) (es_test (es_op (A := fun d => ∃ n : Int, 0 ≤ n ∧ d = .int n) (B := fun d => d = .int 0) (es_key (by rfl) (.inl rfl)) ev_c fun x y ⟨n, hn, ex⟩ ey C k => by subst ex ey; exact rv_eq flat_int.shp flat_int.shp rfl (k _ ⟨_, rfl, trivial⟩))) (fun _ => ?_) fun _ => ?_)
  · refine st_put (es_callO (by rfl) ea_nil rfl fun C k => ⟨rfl, rfl, fun n hn => k _ ⟨n, hn, rfl⟩⟩) (by rfl) (.inl rfl) ?_
    exact tail h1 h2 h
  · exact tail h1 h2 h
section
variable {P : Program} {w : World} {K : PySem.W.Frag} {mg : Str → Option Value} {base : Heap}
theorem sc_law_take : FnScope ["draw", "size", "found"] ["draw", "size"] (defScope (top 47)) := ⟨rfl, rfl, rfl, by decide +kernel, rfl, by decide +kernel, by decide +kernel⟩
theorem ok_law_take (T : Top P w K mg) : Fn P w K mg base 2 "_law_take" ["draw", "size"] (OSp 2 w_law_take) := by
  obtain ⟨fd, F⟩ := T.fn 33 (x := "_law_take") (st := (top 47)) rfl
  have sc := sc_law_take
  have tm : ∀ x, x ∈ frees → mg x = none := fun x hx => T.free x (mem_free hx)
  refine ⟨⟨fd, F.ok sc (fun vs H Q E h => h.len) (fun cdv A outer s H vs Q E hr h => ?d), F.bindsN fun _ _ _ _ _ _ us hl => match us, hl with | [_, _], _ => rfl⟩, T.glo "_law_take" (mem_glo (by decide +kernel)), F.kp⟩
  exact ⟨_, PSs.nox (pss_cons (ps_while PassesOwn.never (PW.pt (pw_and (pt_cmpR (show OpR _ _ (rEqD K) from op_eqD hr.units) (pe_dget (hu_of hr) (pv 0) pe_str (fun _ _ => rfl)) pe_int (nomark _)) (pw_and1 (pt_cmpR (show OpR _ _ (rNeD K) from op_neD hr.units) (pe_dget (hu_of hr) (pv 0) pe_str (fun _ _ => rfl)) (pe_lst pa_nil) (nomark _))))) (pss_one (ps_dput (hu_of hr) (pv 0) pe_str (pe_bm PySem.F.plainAttrs_list PySem.F.slot_list_pop PySem.F.type_list_pop mt_popAt (pe_dget (hu_of hr) (pv 0) pe_str (fun _ _ => rfl)) (pa_cons pe_int pa_nil)) rfl))) (pss_cons (ps_if (pt_cmpR (show OpR _ _ (rEqD K) from op_eqD hr.units) (pe_dget (hu_of hr) (pv 0) pe_str (fun _ _ => rfl)) pe_int (nomark _)) (pss_one (ps_dput (hu_of hr) (pv 0) pe_str (pe_fO (ok_law_blend T) hr (by rfl) 0 (pa_cons (pv 0) pa_nil)) rfl)) pss_nil) (pss_cons (ps_set (i := 2) sc.nd rfl (by first | exact Or.inl rfl | exact Or.inr rfl) (pe_op op_mod (pe_callTy cl_int (by rfl) (tm "int" (by decide +kernel)) (by decide +kernel) (pa_cons (pe_dget (hu_of hr) (pv 0) pe_str (fun _ _ => rfl)) pa_nil)) (pv 1))) (pss_cons (ps_dput (hu_of hr) (pv 0) pe_str (pe_op ob_fdiv (pe_callTy cl_int (by rfl) (tm "int" (by decide +kernel)) (by decide +kernel) (pa_cons (pe_dget (hu_of hr) (pv 0) pe_str (fun _ _ => rfl)) pa_nil)) (pv 1)) rfl) (pss_one (ps_ret (pv 2))))))), os_body h (ds := r_law_take) inferInstance body_law_take⟩

end
end K04
set_option Elab.async false
set_option linter.all false
set_option maxRecDepth 100000
set_option maxHeartbeats 4000000
set_option synthInstance.maxHeartbeats 4000000
set_option synthInstance.maxSize 100000
namespace K04
open PySem PySem.Spec PyProof.Rows L2 RZ Lf
def w_law_pick : OW := fun w ds C => w = drw ∧ ∃ (x : D) (p : Bool) (xs : List D), ds = [x] ∧ x.seq? = some (p, xs) ∧ 0 < xs.length ∧ xs.length < 1000000 ∧ ∀ y ∈ xs, C y drw
def r_law_pick : DS := (dRet (dOp dIx (dVar 1) (dCallO 2 w_law_take 0 (dCons (dCB dLen (dCons (dVar 1) dNil)) dNil))))
theorem seq_items {x : D} {p : Bool} {xs : List D} (h : x.seq? = some (p, xs)) : x.items? = some xs := by
  cases x <;> simp_all [D.seq?, D.items?]
theorem rv_ix {x : D} {p : Bool} {xs : List D} (h : x.seq? = some (p, xs)) {i : Nat} {y : D} (e : xs[i]? = some y) {C : D → Prop} (k : C y) : dIx x (.int i) C := by
  cases x <;> simp [D.seq?] at h
  · obtain ⟨_, rfl⟩ := h; exact rv_ixL (atI_nat e) k
  · obtain ⟨_, rfl⟩ := h; exact rv_ixT (atI_nat e) k
theorem es_take {env : Lf.Env} {de : DE} {i : Nat} {n : Int} (hw : env[i]? = some (some (.o drw))) (h : Ev de env (.int n)) (h1 : 1 ≤ n) (h2 : n < 1073741824) : Es (dCallO 2 w_law_take i (dCons de dNil)) env fun d => ∃ k : Int, 0 ≤ k ∧ k < n ∧ d = .int k :=
  es_callO hw (ea_cons h ea_nil) rfl fun C q => ⟨rfl, n, h1, h2, rfl, fun k k0 k1 => q _ ⟨k, k0, k1, rfl⟩⟩
theorem body_law_pick : ∀ (w : Ow) (as : List D) (C : D → Ow → Prop), as.length + 1 = 2 → w_law_pick w as C →
    r_law_pick (some (.o w) :: env0 (["draw", "some"].length - 2) as) { nx := fun env' => ∃ w', env'[0]? = some (some (.o w')) ∧ C .non w', rt := fun d env' => ∃ w', env'[0]? = some (some (.o w')) ∧ C d w' } := by
  rintro w as C _ ⟨rfl, x, p, xs, rfl, hx, l0, l1, h⟩
  refine st_ret (S := fun d => d ∈ xs) (es_op (A := fun d => d = x) (B := fun d => ∃ k : Int, 0 ≤ k ∧ k < (xs.length : Int) ∧ d = .int k) (ev_var (by rfl)) ?_ ?_) fun d hd => ⟨drw, by rfl, h d hd⟩
  · exact es_take (by rfl) (ev_cb (ea_cons (ev_var (by rfl)) ea_nil) fun C k => cv_len (seq_items hx) k) (by omega) (by omega)
  · rintro a b rfl ⟨k, k0, k1, rfl⟩ C q
    have hk : k.toNat < xs.length := by omega
    have e : k = (k.toNat : Int) := by omega
    rw [e]
    exact rv_ix hx (List.getElem?_eq_getElem hk) (q _ (List.getElem_mem hk))
section
variable {P : Program} {w : World} {K : PySem.W.Frag} {mg : Str → Option Value} {base : Heap}
theorem sc_law_pick : FnScope ["draw", "some"] ["draw", "some"] (defScope (top 48)) := ⟨rfl, rfl, rfl, by decide +kernel, rfl, by decide +kernel, by decide +kernel⟩
theorem ok_law_pick (T : Top P w K mg) : Fn P w K mg base 3 "_law_pick" ["draw", "some"] (OSp 2 w_law_pick) := by
  obtain ⟨fd, F⟩ := T.fn 34 (x := "_law_pick") (st := (top 48)) rfl
  have sc := sc_law_pick
  have tm : ∀ x, x ∈ frees → mg x = none := fun x hx => T.free x (mem_free hx)
  refine ⟨⟨fd, F.ok sc (fun vs H Q E h => h.len) (fun cdv A outer s H vs Q E hr h => ?d), F.bindsN fun _ _ _ _ _ _ us hl => match us, hl with | [_, _], _ => rfl⟩, T.glo "_law_pick" (mem_glo (by decide +kernel)), F.kp⟩
  exact ⟨_, PSs.nox (pss_one (ps_ret (pe_ix (show IxR _ (fun x y H Q => rIxL K x y H Q ∨ rIxT K x y H Q) from ix_any) (pv 1) (pe_fO (ok_law_take T) hr (by rfl) 0 (pa_cons (pv 0) (pa_cons (pe_callB (show CallR _ _ (rLenQ K) from cl_len) (by rfl) (tm "len" (by decide +kernel)) (by decide +kernel) (pa_cons (pv 1) pa_nil)) pa_nil))) (fun _ _ => rfl)))), os_body h (ds := r_law_pick) inferInstance body_law_pick⟩

end
end K04
set_option Elab.async false
set_option linter.all false
set_option maxRecDepth 100000
set_option maxHeartbeats 4000000
set_option synthInstance.maxHeartbeats 4000000
set_option synthInstance.maxSize 100000
namespace K04
open PySem PySem.Spec PyProof.Rows L2 RZ Lf
theorem ints_ex {lo hi : Int} : ∀ {ys : List D}, (∀ y ∈ ys, ∃ x, y = .int x ∧ lo ≤ x ∧ x ≤ hi) → ∃ r : List Int, ys = r.map .int ∧ ∀ x ∈ r, lo ≤ x ∧ x ≤ hi
  | [], _ => ⟨[], rfl, fun x h => by simp at h⟩
  | y :: ys, h => by
    obtain ⟨x, rfl, h1⟩ := h y (by simp)
    obtain ⟨r, rfl, h2⟩ := ints_ex (ys := ys) fun z hz => h z (by simp [hz])
    exact ⟨x :: r, rfl, fun z hz => by
      rcases List.mem_cons.mp hz with rfl | hz
      · exact h1
      · exact h2 z hz⟩
theorem rngD_len (n : Int) : (rngD 0 n.toNat).length = n.toNat := by simp [rngD]
/-- tuple([.. for k in range(size)]) of drawn numbers -/
theorem es_row {env : Lf.Env} {de : DE} {lo hi : Int} {n : Nat} {i j : Nat} (hs : env[i]? = some (some (.d (.int (n : Nat))))) (hn : n ≤ 1000) (no : noOwnB env [j] = true) (fr : free (wipeE env [j]) j = true)
    (h : ∀ d, Es de ((wipeE env [j]).set j (some (.d d))) fun d => ∃ x, d = .int x ∧ lo ≤ x ∧ x ≤ hi) :
    Es (dCB dTupQ (dCons (dOfN (dLcN (diR1 (dCons (dVar i) dNil)) (dgN j) [j] dYes de [j])) dNil)) env fun d => ∃ r : List Int, d = rowD r ∧ r.length = n ∧ ∀ x ∈ r, lo ≤ x ∧ x ≤ hi := by
  have hl := rngD_len (n : Nat)
  refine es_cb (T := fun ds => ∃ ys : List D, ds = [.lst ys] ∧ ys.length = n ∧ ∀ y ∈ ys, ∃ x, y = .int x ∧ lo ≤ x ∧ x ≤ hi) (fun C k => es_cons1 (es_lc (xs := rngD 0 ((n : Nat) : Int).toNat) (fun _ d => ∃ x, d = .int x ∧ lo ≤ x ∧ x ≤ hi) (ei_r1 (ea_cons (ev_var hs) ea_nil) (by omega) (by omega)) (by omega) (by simp) no fun i x hx => ⟨_, tg_n fr, h x⟩) _ fun ds ⟨x, ⟨ys, ex, l, hy⟩, e⟩ => k _ ⟨ys, by rw [e, ex], by omega, fun y hy' => let ⟨t, ht⟩ := List.mem_iff_getElem?.mp hy'; hy t y ht⟩) ?_
  rintro ds ⟨ys, rfl, l, hy⟩ C k
  obtain ⟨r, rfl, hr⟩ := ints_ex hy
  exact cv_tup rfl (k _ ⟨r, rfl, by simpa using l, hr⟩)
structure Drawn (n : Nat) (cols : List (List Int)) (goal : List Int) : Prop where
  n1 : 1 ≤ n
  n4 : n ≤ 4
  few : cols.length ≤ 6
  len : ∀ r ∈ cols, r.length = n
  csm : ∀ r ∈ cols, ∀ x ∈ r, -30000 ≤ x ∧ x ≤ 30000
  glen : goal.length = n
  gsm : ∀ x ∈ goal, -600000 ≤ x ∧ x ≤ 600000
def w_law_some_columns : OW := fun w ds C => w = drw ∧ ds = [] ∧ ∀ n cols goal, Drawn n cols goal → C (.tup [.lst (cols.map rowD), rowD goal]) drw
theorem es_pick {env : Lf.Env} {de : DE} {ns : List Int} (hw : env[0]? = some (some (.o drw))) (h : Ev de env (.lst (ns.map .int))) (l0 : 0 < ns.length) (l1 : ns.length < 1000) : Es (dCallO 2 w_law_pick 0 (dCons de dNil)) env fun d => ∃ x ∈ ns, d = .int x :=
  es_callO hw (ea_cons h ea_nil) rfl fun C q => ⟨rfl, _, false, ns.map .int, rfl, rfl, by simpa using l0, by simp; omega, fun y hy => by
    obtain ⟨x, hx, rfl⟩ := List.mem_map.mp hy
    exact q _ ⟨x, hx, rfl⟩⟩
theorem take_c {env : Lf.Env} {n : Int} (hw : env[0]? = some (some (.o drw))) (h1 : 1 ≤ n) (h2 : n < 1073741824) : Es (dCallO 2 w_law_take 0 (dCons (dC (.int n)) dNil)) env fun d => ∃ k : Int, 0 ≤ k ∧ k < n ∧ d = .int k := es_take hw ev_c h1 h2
/-- a drawn number from -most to most -/
theorem es_num {env : Lf.Env} {most : Int} (hw : env[0]? = some (some (.o drw))) (h5 : env[5]? = some (some (.d (.int most)))) (m0 : 0 ≤ most) (m1 : most ≤ 30000) :
    Es (dOp (rII fun i j => i - j) (dCallO 2 w_law_take 0 (dCons (dOp dbAdd (dOp dbMul (dC (.int 2)) (dVar 5)) (dC (.int 1))) dNil)) (dVar 5)) env fun d => ∃ x, d = .int x ∧ -most ≤ x ∧ x ≤ most :=
  es_op (A := fun d => ∃ k : Int, 0 ≤ k ∧ k < 2 * most + 1 ∧ d = .int k) (B := fun d => d = .int most) (es_take hw (ev_op (ev_op ev_c (ev_var h5) fun C k => rv_mul (.inl (.inl ⟨by decide, by decide⟩)) rfl k) ev_c fun C k => rv_add rfl k) (by omega) (by omega)) (ev_var h5) fun x y ⟨k, k0, k1, ex⟩ ey C q => by
    subst ex ey; exact rv_ii rfl (q _ ⟨_, rfl, by omega, by omega⟩)
theorem sum_row {n : Nat} {r s : List Int} {a b c : Int} (hr : r.length = n) (hs : s.length = n) (h1 : ∀ x ∈ r, -a ≤ x ∧ x ≤ a) (h2 : ∀ x ∈ s, -b ≤ x ∧ x ≤ b) (h : a + b ≤ c) : (List.zipWith (· + ·) r s).length = n ∧ ∀ x ∈ List.zipWith (· + ·) r s, -c ≤ x ∧ x ≤ c := by
  refine ⟨by rw [List.length_zipWith]; omega, fun x hx => ?_⟩
  induction r generalizing s n with
  | nil => simp at hx
  | cons y r ih =>
    cases s with
    | nil => simp at hx
    | cons z s =>
      rw [List.zipWith_cons_cons] at hx
      rcases List.mem_cons.mp hx with rfl | hx
      · have := h1 y (by simp); have := h2 z (by simp); omega
      · exact ih (n := n - 1) (s := s) (by simp at hr; omega) (by simp at hs; omega) (fun x hx => h1 x (by simp [hx])) (fun x hx => h2 x (by simp [hx])) hx
theorem small_of {r : List Int} {a : Int} (h : ∀ x ∈ r, -a ≤ x ∧ x ≤ a) (ha : a ≤ 1000000) : Small r := fun x hx => by have := h x hx; omega
def tuBody : DS := (dSeq (dIfS (dTest (dOp dEqD (dCallO 2 w_law_take 0 (dCons (dC (.int 2)) dNil)) (dC (.int 0)))) (dSeq (dAsg (dCallP 1 w_law_divisor (dCons (dVar 3) dNil)) (dgN 7)) (dAsg (dIf (dTest (dOp dEqD (dVar 7) (dC (.int 0)))) (dVar 3) (dCB dTupQ (dCons (dOfN (dLcN (diSeq (dVar 3)) (dgN 9) [9] dYes (dOp dbFdiv (dVar 9) (dVar 7)) [9])) dNil))) (dgN 3))) dNext) (dIfS (dTest (dOp dEqD (dCallO 2 w_law_take 0 (dCons (dC (.int 4)) dNil)) (dC (.int 0)))) (dAsg (dCallP 2 w_law_sum (dCons (dVar 3) (dCons (dCB dTupQ (dCons (dOfN (dLcN (diR1 (dCons (dVar 4) dNil)) (dgN 8) [8] dYes (dOp (rII fun i j => i - j) (dCallO 2 w_law_take 0 (dCons (dC (.int 3)) dNil)) (dC (.int 1))) [8])) dNil)) dNil))) (dgN 3)) dNext))
theorem es_eq0 {env : Lf.Env} {n : Int} (hw : env[0]? = some (some (.o drw))) (h1 : 1 ≤ n) (h2 : n < 1073741824) : Et (dTest (dOp dEqD (dCallO 2 w_law_take 0 (dCons (dC (.int n)) dNil)) (dC (.int 0)))) env fun _ => True :=
  es_test (es_op (A := fun d => ∃ k : Int, 0 ≤ k ∧ k < n ∧ d = .int k) (B := fun d => d = .int 0) (take_c hw h1 h2) ev_c fun x y ⟨k, _, _, ex⟩ ey C q => by subst ex ey; exact rv_eq flat_int.shp flat_int.shp rfl (q _ ⟨_, rfl, trivial⟩))
theorem body_tu {n : Nat} {g : List Int} {cD : D} {most : Int} {t u v : Option D} {E : DEnds} (hn : n ≤ 4) (hg : g.length = n) (hb : ∀ x ∈ g, -540000 ≤ x ∧ x ≤ 540000)
    (k : ∀ g' : List Int, ∀ u' v' : Option D, g'.length = n → (∀ x ∈ g', -600000 ≤ x ∧ x ≤ 600000) → E.nx [some (.o drw), some (.d cD), t.map .d, some (.d (rowD g')), some (.d (.int (n : Nat))), some (.d (.int most)), u'.map .d, v'.map .d, none, none]) :
    tuBody [some (.o drw), some (.d cD), t.map .d, some (.d (rowD g)), some (.d (.int (n : Nat))), some (.d (.int most)), u.map .d, v.map .d, none, none] E := by
  have last : ∀ (g : List Int) (u v : Option D), g.length = n → (∀ x ∈ g, -540000 ≤ x ∧ x ≤ 540000) → (dIfS (dTest (dOp dEqD (dCallO 2 w_law_take 0 (dCons (dC (.int 4)) dNil)) (dC (.int 0)))) (dAsg (dCallP 2 w_law_sum (dCons (dVar 3) (dCons (dCB dTupQ (dCons (dOfN (dLcN (diR1 (dCons (dVar 4) dNil)) (dgN 8) [8] dYes (dOp (rII fun i j => i - j) (dCallO 2 w_law_take 0 (dCons (dC (.int 3)) dNil)) (dC (.int 1))) [8])) dNil)) dNil))) (dgN 3)) dNext) [some (.o drw), some (.d cD), t.map .d, some (.d (rowD g)), some (.d (.int (n : Nat))), some (.d (.int most)), u.map .d, v.map .d, none, none] E := by
    intro g u v hg hb
    refine st_if (es_eq0 (by rfl) (by decide) (by decide)) (fun _ => ?_) fun _ => ?_
    · refine st_asg (S := fun d => ∃ g', d = rowD g' ∧ g'.length = n ∧ ∀ x ∈ g', -600000 ≤ x ∧ x ≤ 600000) (fun C q => ?_) (by rfl) ?_
      · refine ea_consS (A := fun d => d = rowD g) (B := fun ds => ∃ x, (∃ r : List Int, x = rowD r ∧ r.length = n ∧ ∀ x ∈ r, -1 ≤ x ∧ x ≤ 1) ∧ ds = [x]) (ev_var (by rfl)) (es_cons1 (es_row (by rfl) (by omega) (by cases u <;> cases v <;> cases t <;> rfl) (by cases u <;> cases v <;> cases t <;> rfl) fun d => ?_)) _ ?_
        · exact es_op (A := fun d => ∃ k : Int, 0 ≤ k ∧ k < 3 ∧ d = .int k) (B := fun d => d = .int 1) (take_c (by rfl) (by decide) (by decide)) ev_c fun x y ⟨k, k0, k1, ex⟩ ey C q => by subst ex ey; exact rv_ii rfl (q _ ⟨_, rfl, by omega, by omega⟩)
        · rintro ds ⟨x, r', rfl, ⟨y, ⟨r, rfl, hr, hx⟩, rfl⟩, rfl⟩
          refine ⟨rfl, g, r, rfl, by omega, ?_⟩
          have s := sum_row (c := 600000) hg hr hb (b := 1) hx (by omega)
          exact q _ ⟨_, rfl, s.1, s.2⟩
      · rintro d ⟨g', rfl, h1, h2⟩
        exact k g' u v h1 h2
    · exact k g u v hg fun x hx => by have := hb x hx; omega
  refine st_seq (st_if (es_eq0 (by rfl) (by decide) (by decide)) (fun _ => ?_) fun _ => ?_)
  · refine st_seq (st_asg1 (ev_call (ea_cons (ev_var (by rfl)) ea_nil) rfl fun C q => ⟨g, rfl, by omega, q⟩) (by cases v <;> rfl) ?_)
    have hl : (g.map D.int).length = g.length := List.length_map ..
    by_cases z : (Sx.gcdL g : Int) = 0
    · refine st_asg1 (d := rowD g) (ev_if (p := true) (et_test (ev_op (ev_var (by rfl)) ev_c fun C q => rv_eq flat_int.shp flat_int.shp (by rw [dEq_int]; exact decide_eq_true z) q)) (fun _ => ev_var (by rfl)) fun e => nomatch e) (by rfl) ?_
      exact last g u (some (.int (Sx.gcdL g : Nat))) hg hb
    · have gp : 0 < (Sx.gcdL g : Int) := by omega
      have gb : ((Sx.gcdL g : Nat) : Int).natAbs < 2 ^ 30 := by
        rw [Int.natAbs_natCast]
        exact Sx.gcd_wide (fun x hx => by have := hb x hx; omega) (by decide)
      refine st_asg1 (d := rowD (g.map fun x => x / (Sx.gcdL g : Int))) (ev_if (p := false) (et_test (ev_op (ev_var (by rfl)) ev_c fun C q => rv_eq flat_int.shp flat_int.shp (by rw [dEq_int]; exact decide_eq_false z) q)) (fun e => nomatch e) fun _ => ?_) (by rfl) ?_
      · refine ev_cb (ea_cons (ev_map (fun y => match y with | .int v => .int (v / (Sx.gcdL g : Int)) | _ => y) (ei_seq (ev_var (by rfl)) rfl) (by omega) (by simp) (by cases u <;> cases t <;> rfl) fun y hy => ⟨_, tg_n (by cases u <;> cases t <;> rfl), ?_⟩) ea_nil) fun C q => cv_tup rfl (by
          have : (g.map D.int).map (fun y => match y with | .int v => D.int (v / (Sx.gcdL g : Int)) | _ => y) = (g.map fun x => x / (Sx.gcdL g : Int)).map D.int := by simp
          rw [this]; exact q)
        obtain ⟨w, _, rfl⟩ := List.mem_map.mp hy
        exact ev_op (ev_var (by rfl)) (ev_var (by rfl)) fun C q => rv_fdivW (wide_div gp gb (by decide) (by decide)) rfl q
      · refine last _ u (some (.int (Sx.gcdL g : Nat))) (by simpa using hg) fun x hx => ?_
        obtain ⟨y, hy, rfl⟩ := List.mem_map.mp hx
        have b := hb y hy
        constructor
        · have : -540000 ≤ y / (Sx.gcdL g : Int) := by
            refine Int.le_ediv_of_mul_le gp ?_
            have := Int.mul_le_mul_of_nonneg_left (show (1 : Int) ≤ (Sx.gcdL g : Int) by omega) (show (0 : Int) ≤ 540000 by decide)
            omega
          exact this
        · refine Int.ediv_le_of_le_mul gp ?_
          have := Int.mul_le_mul_of_nonneg_left (show (1 : Int) ≤ (Sx.gcdL g : Int) by omega) (show (0 : Int) ≤ 540000 by decide)
          omega
  · exact last g u v hg hb
section
variable {P : Program} {w : World} {K : PySem.W.Frag} {mg : Str → Option Value} {base : Heap}

end
end K04
set_option Elab.async false
set_option linter.all false
set_option maxRecDepth 100000
set_option maxHeartbeats 4000000
set_option synthInstance.maxHeartbeats 4000000
set_option synthInstance.maxSize 100000
namespace K04
open PySem PySem.Spec PyProof.Rows L2 RZ Lf
def r_law_some_columns : DS := (dSeq (dAsg (dTup (dCons (dOp dbAdd (dC (.int 1)) (dCallO 2 w_law_take 0 (dCons (dC (.int 4)) dNil))) (dCons (dCallO 2 w_law_pick 0 (dCons (dLst (dCons (dC (.int 1)) (dCons (dC (.int 2)) (dCons (dC (.int 3)) (dCons (dC (.int 9)) (dCons (dC (.int 30000)) dNil)))))) dNil)) dNil))) (dgTup 2 (dgCons (dgN 4) (dgCons (dgN 5) dgNil)))) (dSeq (dAsgO (dNewL dNil) 1) (dSeq (dFor (diR1 (dCons (dCallO 2 w_law_take 0 (dCons (dC (.int 7)) dNil)) dNil)) (dgN 2) (dAppO 1 (dCB dTupQ (dCons (dOfN (dLcN (diR1 (dCons (dVar 4) dNil)) (dgN 8) [8] dYes (dOp (rII fun i j => i - j) (dCallO 2 w_law_take 0 (dCons (dOp dbAdd (dOp dbMul (dC (.int 2)) (dVar 5)) (dC (.int 1))) dNil)) (dVar 5)) [8])) dNil)))) (dSeq (dAsg (dCB dTupQ (dCons (dOfN (dLcN (diR1 (dCons (dVar 4) dNil)) (dgN 8) [8] dYes (dOp (rII fun i j => i - j) (dCallO 2 w_law_take 0 (dCons (dOp dbAdd (dOp dbMul (dC (.int 2)) (dVar 5)) (dC (.int 1))) dNil)) (dVar 5)) [8])) dNil)) (dgN 3)) (dFrz 1 (dSeq (dIfS (dAnd (dTest (dOp dNeD (dVar 1) (dLst dNil))) (dTest (dOp (rIB fun i j => decide (j < i)) (dCallO 2 w_law_take 0 (dCons (dC (.int 3)) dNil)) (dC (.int 0))))) (dSeq (dAsg (dOp dbMul (dTup (dCons (dC (.int 0)) dNil)) (dVar 4)) (dgN 3)) (dSeq (dFor (diSeq (dVar 1)) (dgN 6) (dAsg (dCallP 2 w_law_sum (dCons (dVar 3) (dCons (dCallP 2 w_law_times (dCons (dVar 6) (dCons (dCallO 2 w_law_pick 0 (dCons (dLst (dCons (dC (.int 0)) (dCons (dC (.int 0)) (dCons (dC (.int 1)) (dCons (dC (.int 2)) (dCons (dC (.int 3)) dNil)))))) dNil)) dNil))) dNil))) (dgN 3))) (dSeq (dIfS (dTest (dOp dEqD (dCallO 2 w_law_take 0 (dCons (dC (.int 2)) dNil)) (dC (.int 0)))) (dSeq (dAsg (dCallP 1 w_law_divisor (dCons (dVar 3) dNil)) (dgN 7)) (dAsg (dIf (dTest (dOp dEqD (dVar 7) (dC (.int 0)))) (dVar 3) (dCB dTupQ (dCons (dOfN (dLcN (diSeq (dVar 3)) (dgN 9) [9] dYes (dOp dbFdiv (dVar 9) (dVar 7)) [9])) dNil))) (dgN 3))) dNext) (dIfS (dTest (dOp dEqD (dCallO 2 w_law_take 0 (dCons (dC (.int 4)) dNil)) (dC (.int 0)))) (dAsg (dCallP 2 w_law_sum (dCons (dVar 3) (dCons (dCB dTupQ (dCons (dOfN (dLcN (diR1 (dCons (dVar 4) dNil)) (dgN 8) [8] dYes (dOp (rII fun i j => i - j) (dCallO 2 w_law_take 0 (dCons (dC (.int 3)) dNil)) (dC (.int 1))) [8])) dNil)) dNil))) (dgN 3)) dNext)))) dNext) (dRet (dTup (dCons (dVar 1) (dCons (dVar 3) dNil))))))))))
theorem mul_row {n : Nat} {r : List Int} {a m b c : Int} (hr : r.length = n) (h : ∀ x ∈ r, -a ≤ x ∧ x ≤ a) (hm : 0 ≤ m ∧ m ≤ b) (ha : 0 ≤ a) (hc : a * b ≤ c) : (r.map (· * m)).length = n ∧ ∀ x ∈ r.map (· * m), -c ≤ x ∧ x ≤ c := by
  refine ⟨by simpa using hr, fun x hx => ?_⟩
  obtain ⟨y, hy, rfl⟩ := List.mem_map.mp hx
  have b1 := h y hy
  have h1 : y * m ≤ a * m := Int.mul_le_mul_of_nonneg_right b1.2 hm.1
  have h2 : -a * m ≤ y * m := Int.mul_le_mul_of_nonneg_right b1.1 hm.1
  have h3 : a * m ≤ a * b := Int.mul_le_mul_of_nonneg_left hm.2 ha
  have h4 : -a * m = -(a * m) := Int.neg_mul ..
  show -c ≤ y * m ∧ y * m ≤ c
  omega
theorem flat_cols {cols : List (List Int)} : flat 2 (.lst (cols.map rowD)) := flat_lst fun x hx => by obtain ⟨r, _, rfl⟩ := List.mem_map.mp hx; exact flat_row
theorem body_law_some_columns : ∀ (w : Ow) (as : List D) (C : D → Ow → Prop), as.length + 1 = 1 → w_law_some_columns w as C →
    r_law_some_columns (some (.o w) :: env0 (["draw", "columns", "lap", "goal", "size", "most", "column", "found", "k", "item"].length - 1) as) { nx := fun env' => ∃ w', env'[0]? = some (some (.o w')) ∧ C .non w', rt := fun d env' => ∃ w', env'[0]? = some (some (.o w')) ∧ C d w' } := by
  rintro w as C _ ⟨rfl, rfl, h⟩
  have pick5 : ∀ (env : Lf.Env) (a b c d e : Int), env[0]? = some (some (.o drw)) → Es (dCallO 2 w_law_pick 0 (dCons (dLst (dCons (dC (.int a)) (dCons (dC (.int b)) (dCons (dC (.int c)) (dCons (dC (.int d)) (dCons (dC (.int e)) dNil)))))) dNil)) env fun x => ∃ y ∈ [a, b, c, d, e], x = .int y := fun env a b c d e hw =>
    es_pick hw (ev_lst (ea_cons ev_c (ea_cons ev_c (ea_cons ev_c (ea_cons ev_c (ea_cons ev_c ea_nil))))) (by show 5 ≤ 100000; decide)) (by show 0 < 5; decide) (by show 5 < 1000; decide)
  have hd : Es (dTup (dCons (dOp dbAdd (dC (.int 1)) (dCallO 2 w_law_take 0 (dCons (dC (.int 4)) dNil))) (dCons (dCallO 2 w_law_pick 0 (dCons (dLst (dCons (dC (.int 1)) (dCons (dC (.int 2)) (dCons (dC (.int 3)) (dCons (dC (.int 9)) (dCons (dC (.int 30000)) dNil)))))) dNil)) dNil)))
      (some (.o drw) :: env0 (["draw", "columns", "lap", "goal", "size", "most", "column", "found", "k", "item"].length - 1) []) fun d => ∃ (n : Nat) (most : Int), 1 ≤ n ∧ n ≤ 4 ∧ 0 ≤ most ∧ most ≤ 30000 ∧ d = .tup [.int (n : Nat), .int most] := fun K q => by
    refine ea_consS (A := fun d => ∃ k : Int, 0 ≤ k ∧ k < 4 ∧ d = .int (1 + k)) (B := fun ds => ∃ x, (∃ y ∈ [(1 : Int), 2, 3, 9, 30000], x = .int y) ∧ ds = [x]) ?_ (es_cons1 (pick5 _ 1 2 3 9 30000 (by rfl))) _ ?_
    · exact es_op (A := fun d => d = .int 1) (B := fun d => ∃ k : Int, 0 ≤ k ∧ k < 4 ∧ d = .int k) ev_c (take_c (by rfl) (by decide) (by decide)) fun x y ex ⟨k, k0, k1, ey⟩ C q => by subst ex ey; exact rv_add rfl (q _ ⟨k, k0, k1, rfl⟩)
    · rintro ds ⟨x, r, ⟨k, k0, k1, rfl⟩, ⟨y, ⟨m, hm, rfl⟩, rfl⟩, rfl⟩
      refine ⟨by show 2 ≤ 100000; decide, q _ ⟨(1 + k).toNat, m, by omega, by omega, ?_, ?_, ?_⟩⟩
      · simp at hm; omega
      · simp at hm; omega
      · have : (((1 + k).toNat : Nat) : Int) = 1 + k := by omega
        rw [this]
  refine st_seq (hd _ ?_)
  rintro d ⟨n, most, n1, n4, m0, m1, rfl⟩
  refine ⟨keepE_refl, tg_two (by rfl) (by rfl) _ ?_⟩
  refine st_seq (st_asgO (T := fun xs => xs = []) (ea_newL ea_nil (by decide)) (by rfl) ?_)
  rintro xs rfl
  dsimp only
  have row : ∀ (t : Option D) (cs : En), Es (dCB dTupQ (dCons (dOfN (dLcN (diR1 (dCons (dVar 4) dNil)) (dgN 8) [8] dYes (dOp (rII fun i j => i - j) (dCallO 2 w_law_take 0 (dCons (dOp dbAdd (dOp dbMul (dC (.int 2)) (dVar 5)) (dC (.int 1))) dNil)) (dVar 5)) [8])) dNil))
      [some (.o drw), some cs, t.map .d, none, some (.d (.int (n : Nat))), some (.d (.int most)), none, none, none, none] fun d => ∃ r : List Int, d = rowD r ∧ r.length = n ∧ ∀ x ∈ r, -most ≤ x ∧ x ≤ most := fun t cs =>
    es_row (by rfl) (by omega) (by cases t <;> rfl) (by cases t <;> rfl) fun d => es_num (by rfl) (by rfl) m0 m1
  refine st_seq (st_forS (T := fun xs => xs.length ≤ 6) (fun C q => es_cons1 (take_c (n := 7) (by rfl) (by decide) (by decide)) _ fun ds ⟨x, ⟨k, k0, k1, ex⟩, e⟩ => ⟨k, by rw [e, ex], by omega, by omega, q _ (by show (rngD 0 k.toNat).length ≤ 6; rw [rngD_len]; omega)⟩) fun xs hxs => ?_)
  refine ⟨fun i e => ∃ (t : Option D) (cols : List (List Int)), cols.length = i ∧ (∀ r ∈ cols, r.length = n ∧ ∀ x ∈ r, -most ≤ x ∧ x ≤ most) ∧ e = [some (.o drw), some (.l (cols.map rowD)), t.map .d, none, some (.d (.int (n : Nat))), some (.d (.int most)), none, none, none, none], ⟨none, [], rfl, fun r hr => by simp at hr, by rfl⟩, ?_, ?_⟩
  · rintro i x e hx ⟨t, cols, hi, hc, rfl⟩
    have hlt := (List.getElem?_eq_some_iff.mp hx).1
    refine ⟨_, tg_n (by cases t <;> rfl), ?_⟩
    refine st_app (xs := cols.map rowD) (by rfl) (row (some x) (.l (cols.map rowD))) (by rw [List.length_map]; omega) ?_
    rintro d ⟨r, rfl, hr, hx⟩
    refine ⟨some x, cols ++ [r], by simp [hi], fun s hs => ?_, ?_⟩
    · rcases List.mem_append.mp hs with hs | hs
      · exact hc s hs
      · have : s = r := by simpa using hs
        subst this; exact ⟨hr, hx⟩
    · rw [List.map_append]; rfl
  · rintro e ⟨t, cols, hl, hc, rfl⟩
    refine st_seq (st_asg (row t (.l (cols.map rowD))) (by rfl) ?_)
    rintro d ⟨g, rfl, hg, hgb⟩
    refine st_frz (xs := cols.map rowD) (by rfl) ?_
    have lcl : (cols.map rowD).length = cols.length := List.length_map ..
    have fin : ∀ (g : List Int) (a b c : Option D), g.length = n → (∀ x ∈ g, -600000 ≤ x ∧ x ≤ 600000) → dRet (dTup (dCons (dVar 1) (dCons (dVar 3) dNil))) [some (.o drw), some (.d (.lst (cols.map rowD))), t.map .d, some (.d (rowD g)), some (.d (.int (n : Nat))), some (.d (.int most)), a.map .d, b.map .d, none, none] { nx := fun env' => ∃ w', env'[0]? = some (some (.o w')) ∧ C .non w', rt := fun d env' => ∃ w', env'[0]? = some (some (.o w')) ∧ C d w' } := fun g a b c hg hb =>
      st_ret1 (ev_tup (ea_cons (ev_var (by rfl)) (ea_cons (ev_var (by rfl)) ea_nil)) (by show 2 ≤ 100000; decide)) ⟨drw, by rfl, h n cols g ⟨n1, n4, by omega, fun r hr => (hc r hr).1, fun r hr x hx => by have := (hc r hr).2 x hx; omega, hg, hb⟩⟩
    refine st_seq (st_if (T := fun _ => True) (fun K q => ?_) (fun _ => ?_) fun _ => ?_)
    · refine et_test (p := !(cols.map rowD).isEmpty) (ev_op (ev_var (by rfl)) (ev_lst ea_nil (by decide)) fun C k => rv_ne flat_cols.shp flat_nil.shp (by rw [dEq_nil]) k) _ fun b hb => ?_
      subst hb
      cases (cols.map rowD).isEmpty
      · simp only [Bool.not_false, if_true]
        exact es_test (T := fun _ => True) (es_op (A := fun d => ∃ k : Int, 0 ≤ k ∧ k < 3 ∧ d = .int k) (B := fun d => d = .int 0) (take_c (by rfl) (by decide) (by decide)) ev_c fun x y ⟨k, _, _, ex⟩ ey C q => by subst ex ey; exact rv_ib rfl (q _ ⟨_, rfl, trivial⟩)) _ fun p _ => q p trivial
      · simp only [Bool.not_true, Bool.false_eq_true, if_false]
        exact q _ trivial
    · refine st_seq (st_asg1 (d := rowD (mk n fun _ => 0)) (ev_op (ev_tup (ea_cons ev_c ea_nil) (by decide)) (ev_var (by rfl)) fun C k => rv_mulT (by simp) (by omega) (by omega) (by decide) (by
        have e : ((n : Nat) : Int).toNat = n := by omega
        rw [e, rep_zero]; exact k)) (by rfl) ?_)
      refine st_seq (st_for (xs := cols.map rowD) (fun i e => ∃ (u : Option D) (g : List Int), g.length = n ∧ (∀ x ∈ g, -(90000 * (i : Int)) ≤ x ∧ x ≤ 90000 * (i : Int)) ∧ e = [some (.o drw), some (.d (.lst (cols.map rowD))), t.map .d, some (.d (rowD g)), some (.d (.int (n : Nat))), some (.d (.int most)), u.map .d, none, none, none])
        (ei_seq (ev_var (by rfl)) rfl) ⟨none, mk n fun _ => 0, mk_len _ _, fun x hx => by obtain ⟨i, _, rfl⟩ := List.mem_map.mp hx; omega, by rfl⟩ ?_ ?_)
      · rintro i x e hx ⟨u, g, hg, hb, rfl⟩
        obtain ⟨r, hr, rfl⟩ : ∃ r, cols[i]? = some r ∧ x = rowD r := by
          rw [List.getElem?_map] at hx
          cases q : cols[i]? with
          | none => rw [q] at hx; cases hx
          | some r => rw [q] at hx; exact ⟨r, rfl, by simpa using hx.symm⟩
        have hrc := hc r (List.mem_of_getElem? hr)
        refine ⟨_, tg_n (by cases u <;> rfl), ?_⟩
        refine st_asg (S := fun d => ∃ g' : List Int, d = rowD g' ∧ g'.length = n ∧ ∀ x ∈ g', -(90000 * ((i : Int) + 1)) ≤ x ∧ x ≤ 90000 * ((i : Int) + 1)) (fun K q => ?_) (by rfl) ?_
        · refine ea_consS (A := fun d => d = rowD g) (B := fun ds => ∃ m : Int, (0 ≤ m ∧ m ≤ 3) ∧ ds = [rowD (r.map (· * m))]) (ev_var (by rfl)) (fun K q => ?_) _ ?_
          · refine es_cons1 (S := fun d => ∃ m : Int, (0 ≤ m ∧ m ≤ 3) ∧ d = rowD (r.map (· * m))) (fun K q => ?_) _ fun ds ⟨x, ⟨m, hm, ex⟩, e⟩ => q _ ⟨m, hm, by rw [e, ex]⟩
            refine ea_consS (A := fun d => d = rowD r) (B := fun ds => ∃ x, (∃ y ∈ [(0 : Int), 0, 1, 2, 3], x = .int y) ∧ ds = [x]) (ev_var (by rfl)) (es_cons1 (pick5 _ 0 0 1 2 3 (by rfl))) _ ?_
            rintro ds ⟨x, r', rfl, ⟨y, ⟨m, hm, rfl⟩, rfl⟩, rfl⟩
            refine ⟨rfl, r, m, rfl, by omega, small_of (a := 30000) (fun x hx => by have := hrc.2 x hx; omega) (by decide), q _ ⟨m, ?_, rfl⟩⟩
            simp at hm; omega
          · rintro ds ⟨x, r', rfl, ⟨m, hm, rfl⟩, rfl⟩
            refine ⟨rfl, g, r.map (· * m), rfl, by omega, ?_⟩
            have m1 := mul_row (a := 30000) (b := 3) (c := 90000) hrc.1 (fun x hx => by have := hrc.2 x hx; omega) hm (by decide) (by decide)
            have s1 := sum_row (a := 90000 * (i : Int)) (b := 90000) (c := 90000 * ((i : Int) + 1)) hg m1.1 hb m1.2 (by omega)
            exact q _ ⟨_, rfl, s1.1, s1.2⟩
        · rintro d ⟨g', rfl, h1, h2⟩
          exact ⟨some (rowD r), g', h1, fun x hx => by have := h2 x hx; omega, by rfl⟩
      · rintro e ⟨u, g, hg, hb, rfl⟩
        rw [lcl] at hb
        refine body_tu (u := u) (v := none) n4 hg (fun x hx => by have := hb x hx; omega) fun g' u' v' h1 h2 => ?_
        exact fin g' u' v' none h1 h2
    · exact fin g none none none hg fun x hx => by have := hgb x hx; omega
section
variable {P : Program} {w : World} {K : PySem.W.Frag} {mg : Str → Option Value} {base : Heap}
theorem sc_law_some_columns : FnScope ["draw", "columns", "lap", "goal", "size", "most", "column", "found", "k", "item"] ["draw"] (defScope (top 57)) := ⟨rfl, rfl, rfl, by decide +kernel, rfl, by decide +kernel, by decide +kernel⟩
theorem ok_law_some_columns (T : Top P w K mg) : Fn P w K mg base 4 "_law_some_columns" ["draw"] (OSp 1 w_law_some_columns) := by
  obtain ⟨fd, F⟩ := T.fn 43 (x := "_law_some_columns") (st := (top 57)) rfl
  have sc := sc_law_some_columns
  have tm : ∀ x, x ∈ frees → mg x = none := fun x hx => T.free x (mem_free hx)
  refine ⟨⟨fd, F.ok sc (fun vs H Q E h => h.len) (fun cdv A outer s H vs Q E hr h => ?d), F.bindsN fun _ _ _ _ _ _ us hl => match us, hl with | [_], _ => rfl⟩, T.glo "_law_some_columns" (mem_glo (by decide +kernel)), F.kp⟩
  exact ⟨_, PSs.nox (pss_cons (ps_asg (pe_tup (pa_cons (pe_op (show OpR _ _ (rbAdd K) from ob_add) pe_int (pe_fO (ok_law_take T) (hr.mono (by decide)) (by rfl) 0 (pa_cons (pv 0) (pa_cons pe_int pa_nil)))) (pa_cons (pe_fO (ok_law_pick T) hr (by rfl) 0 (pa_cons (pv 0) (pa_cons (pe_lst (pa_cons pe_int (pa_cons pe_int (pa_cons pe_int (pa_cons pe_int (pa_cons pe_int pa_nil)))))) pa_nil))) pa_nil))) (pg_tup (n := 2) rfl (pgs_cons (pg_name (i := 4) sc.nd rfl (by first | exact Or.inl rfl | exact Or.inr rfl)) (pgs_cons (pg_name (i := 5) sc.nd rfl (by first | exact Or.inl rfl | exact Or.inr rfl)) pgs_nil)))) (pss_cons (ps_own (ps_set (i := 1) sc.nd rfl (by first | exact Or.inl rfl | exact Or.inr rfl) (pe_lst pa_nil))) (pss_cons (ps_for PassesOwn.never rfl (pi_range1 rfl (tm "range" (by decide +kernel)) (pa_cons (pe_fO (ok_law_take T) (hr.mono (by decide)) (by rfl) 0 (pa_cons (pv 0) (pa_cons pe_int pa_nil))) pa_nil)) (pg_name (i := 2) sc.nd rfl (by first | exact Or.inl rfl | exact Or.inr rfl)) (pss_one (ps_appO (K := K) (ps_expr (pe_bm PySem.F.plainAttrs_list PySem.F.slot_list_append PySem.F.type_list_append mt_append (pv 1) (pa_cons (pe_callTy (show CallR _ _ (rTupQ K) from cl_tuple) (by rfl) (tm "tuple" (by decide +kernel)) (by decide +kernel) (pa_cons (pe_lc (own := [("k", 8)]) (g := (gName 8)) rfl sc.nd (pi_range1 rfl (tm "range" (by decide +kernel)) (pa_cons (pv 4) pa_nil)) (blkOk_by (N := ["draw", "columns", "lap", "goal", "size", "most", "column", "found", "k", "item"]) (sc := defScope (top 57)) (by decide +kernel)) (fun _ _ _ _ _ => (pg_name (i := 8) sc.nd rfl (by first | exact Or.inl rfl | exact Or.inr rfl))) (fun _ _ _ _ _ => pts_nil) (fun _ _ _ _ _ => (pe_op op_sub (pe_fO (ok_law_take T) (hr.mono (by decide)) (by rfl) 0 (pa_cons (pv 0) (pa_cons (pe_op (show OpR _ _ (rbAdd K) from ob_add) (pe_op (show OpR _ _ (rbMul K) from ob_mul) pe_int (pv 5)) pe_int) pa_nil))) (pv 5)))) pa_nil)) pa_nil)))))) (pss_cons (ps_set (i := 3) sc.nd rfl (by first | exact Or.inl rfl | exact Or.inr rfl) (pe_callTy (show CallR _ _ (rTupQ K) from cl_tuple) (by rfl) (tm "tuple" (by decide +kernel)) (by decide +kernel) (pa_cons (pe_lc (own := [("k", 8)]) (g := (gName 8)) rfl sc.nd (pi_range1 rfl (tm "range" (by decide +kernel)) (pa_cons (pv 4) pa_nil)) (blkOk_by (N := ["draw", "columns", "lap", "goal", "size", "most", "column", "found", "k", "item"]) (sc := defScope (top 57)) (by decide +kernel)) (fun _ _ _ _ _ => (pg_name (i := 8) sc.nd rfl (by first | exact Or.inl rfl | exact Or.inr rfl))) (fun _ _ _ _ _ => pts_nil) (fun _ _ _ _ _ => (pe_op op_sub (pe_fO (ok_law_take T) (hr.mono (by decide)) (by rfl) 0 (pa_cons (pv 0) (pa_cons (pe_op (show OpR _ _ (rbAdd K) from ob_add) (pe_op (show OpR _ _ (rbMul K) from ob_mul) pe_int (pv 5)) pe_int) pa_nil))) (pv 5)))) pa_nil))) (pss_frz 1 (pss_cons (ps_if (PW.pt (pw_and (pt_cmpR (show OpR _ _ (rNeD K) from op_neD hr.units) (pv 1) (pe_lst pa_nil) (nomark _)) (pw_and1 (pt_cmpR op_gt (pe_fO (ok_law_take T) (hr.mono (by decide)) (by rfl) 0 (pa_cons (pv 0) (pa_cons pe_int pa_nil))) pe_int (nomark _))))) (pss_cons (ps_set (i := 3) sc.nd rfl (by first | exact Or.inl rfl | exact Or.inr rfl) (pe_op (show OpR _ _ (rbMul K) from ob_mul) (pe_tup (pa_cons pe_int pa_nil)) (pv 4))) (pss_cons (ps_for PassesOwn.never rfl (pi_seq (pv 1)) (pg_name (i := 6) sc.nd rfl (by first | exact Or.inl rfl | exact Or.inr rfl)) (pss_one (ps_set (i := 3) sc.nd rfl (by first | exact Or.inl rfl | exact Or.inr rfl) (pe_f (ok_law_sum T) (hr.mono (by decide)) rfl (pa_cons (pv 3) (pa_cons (pe_f (ok_law_times T) (hr.mono (by decide)) rfl (pa_cons (pv 6) (pa_cons (pe_fO (ok_law_pick T) hr (by rfl) 0 (pa_cons (pv 0) (pa_cons (pe_lst (pa_cons pe_int (pa_cons pe_int (pa_cons pe_int (pa_cons pe_int (pa_cons pe_int pa_nil)))))) pa_nil))) pa_nil))) pa_nil)))))) (pss_cons (ps_if (pt_cmpR (show OpR _ _ (rEqD K) from op_eqD hr.units) (pe_fO (ok_law_take T) (hr.mono (by decide)) (by rfl) 0 (pa_cons (pv 0) (pa_cons pe_int pa_nil))) pe_int (nomark _)) (pss_cons (ps_set (i := 7) sc.nd rfl (by first | exact Or.inl rfl | exact Or.inr rfl) (pe_f (ok_law_divisor T) (hr.mono (by decide)) rfl (pa_cons (pv 3) pa_nil))) (pss_one (ps_set (i := 3) sc.nd rfl (by first | exact Or.inl rfl | exact Or.inr rfl) (pe_ifExp (pt_cmpR (show OpR _ _ (rEqD K) from op_eqD hr.units) (pv 7) pe_int (nomark _)) (pv 3) (pe_callTy (show CallR _ _ (rTupQ K) from cl_tuple) (by rfl) (tm "tuple" (by decide +kernel)) (by decide +kernel) (pa_cons (pe_lc (own := [("item", 9)]) (g := (gName 9)) rfl sc.nd (pi_seq (pv 3)) (blkOk_by (N := ["draw", "columns", "lap", "goal", "size", "most", "column", "found", "k", "item"]) (sc := defScope (top 57)) (by decide +kernel)) (fun _ _ _ _ _ => (pg_name (i := 9) sc.nd rfl (by first | exact Or.inl rfl | exact Or.inr rfl))) (fun _ _ _ _ _ => pts_nil) (fun _ _ _ _ _ => (pe_op ob_fdiv (pv 9) (pv 7)))) pa_nil)))))) pss_nil) (pss_one (ps_if (pt_cmpR (show OpR _ _ (rEqD K) from op_eqD hr.units) (pe_fO (ok_law_take T) (hr.mono (by decide)) (by rfl) 0 (pa_cons (pv 0) (pa_cons pe_int pa_nil))) pe_int (nomark _)) (pss_one (ps_set (i := 3) sc.nd rfl (by first | exact Or.inl rfl | exact Or.inr rfl) (pe_f (ok_law_sum T) (hr.mono (by decide)) rfl (pa_cons (pv 3) (pa_cons (pe_callTy (show CallR _ _ (rTupQ K) from cl_tuple) (by rfl) (tm "tuple" (by decide +kernel)) (by decide +kernel) (pa_cons (pe_lc (own := [("k", 8)]) (g := (gName 8)) rfl sc.nd (pi_range1 rfl (tm "range" (by decide +kernel)) (pa_cons (pv 4) pa_nil)) (blkOk_by (N := ["draw", "columns", "lap", "goal", "size", "most", "column", "found", "k", "item"]) (sc := defScope (top 57)) (by decide +kernel)) (fun _ _ _ _ _ => (pg_name (i := 8) sc.nd rfl (by first | exact Or.inl rfl | exact Or.inr rfl))) (fun _ _ _ _ _ => pts_nil) (fun _ _ _ _ _ => (pe_op op_sub (pe_fO (ok_law_take T) (hr.mono (by decide)) (by rfl) 0 (pa_cons (pv 0) (pa_cons pe_int pa_nil))) pe_int))) pa_nil)) pa_nil))))) pss_nil))))) pss_nil) (pss_one (ps_ret (pe_tup (pa_cons (pv 1) (pa_cons (pv 3) pa_nil))))))))))), os_body h (ds := r_law_some_columns) inferInstance body_law_some_columns⟩

end
end K04
set_option Elab.async false
set_option linter.all false
set_option maxRecDepth 100000
set_option maxHeartbeats 4000000
set_option synthInstance.maxHeartbeats 4000000
set_option synthInstance.maxSize 100000
namespace K04
open PySem PySem.Spec PyProof.Rows L2 RZ Lf
theorem new_first {n : Nat} {goal : List Int} (h : goal.length = n) : BSt.new goal = stB n (Sx.St.first (Sx.fn goal)) := by
  subst h
  have e : ∀ z : Int, (if z < 0 then -z else z) = (z.natAbs : Int) := fun z => by split <;> omega
  have h1 : (BSt.new goal).levels = mk goal.length (Sx.St.first (Sx.fn goal)).L := by
    show goal.map (fun z => if z < 0 then -z else z) = (List.range goal.length).map fun k => ((Sx.fn goal k).natAbs : Int)
    conv => lhs; rw [Sx.list_fn goal]
    rw [List.map_map]
    exact List.map_congr_left fun k _ => e _
  have h2 : (BSt.new goal).members = (List.range goal.length).map (Sx.St.first (Sx.fn goal)).M := by
    show List.replicate goal.length none = (List.range goal.length).map fun _ => none
    rw [List.map_const', List.length_range]
  have h3 : (BSt.new goal).inverse = (List.range goal.length).map fun k => mk goal.length ((Sx.St.first (Sx.fn goal)).N k) := rfl
  show BSt.mk 1 _ _ _ = BSt.mk 1 _ _ _
  rw [← h1, ← h2, ← h3]
  rfl
theorem sc_Basis___init__ : FnScope ["self", "goal", "many", "k", "number", "_"] ["self", "goal"] (defScope (meth 20 0)) := ⟨rfl, rfl, rfl, by decide +kernel, rfl, by decide +kernel, by decide +kernel⟩
theorem ok_Basis___init__ {P : Program} {w : World} {K : PySem.W.Frag} {mg : Str → Option Value} {base : Heap} (T : Top P w K mg) : Mt P w K mg base 1 (He.ga K "Basis") "__init__" ["self", "goal"] (initSp (He.ga K "Basis")) := by
  obtain ⟨fd, F⟩ := T.says.def_ 49 (d := mdef "Basis" "__init__" "Basis.__init__" (meth 20 0)) rfl
  have sc := sc_Basis___init__
  have tm : ∀ x, x ∈ frees → mg x = none := fun x hx => T.free x (mem_free hx)
  refine ⟨fd, FunD.ok F sc (fun vs H Q E h => by obtain ⟨x, dx, g, goal, rfl, _⟩ := h; rfl) (fun cdv A outer s H vs Q E hr h => ?d), FunD.bindsN F fun _ _ _ _ _ _ us hl => match us, hl with | [_, _], _ => rfl⟩
  exact ⟨tInit K (He.ga K "Basis"), PSs.nox (pss_cons (ps_set (i := 2) sc.nd rfl (by first | exact Or.inl rfl | exact Or.inr rfl) (pe_callB (show CallR _ _ (rLenQ K) from cl_len) (by rfl) (tm "len" (by decide +kernel)) (by decide +kernel) (pa_cons (pv 1) pa_nil)))
    (pss_cons (ps_fldC (clsB T) (noatB T "scale" (by decide +kernel)) (pv 0) pe_int)
    (pss_cons (ps_fldC (clsB T) (noatB T "levels" (by decide +kernel)) (pv 0) (pe_lc (own := [("number", 4)]) (g := (gName 4)) rfl sc.nd (pi_seq (pv 1)) (blkOk_by (N := ["self", "goal", "many", "k", "number", "_"]) (sc := defScope (meth 20 0)) (by decide +kernel)) (fun _ _ _ _ _ => (pg_name (i := 4) sc.nd rfl (by first | exact Or.inl rfl | exact Or.inr rfl))) (fun _ _ _ _ _ => pts_nil) (fun _ _ _ _ _ => (pe_callB cl_abs (by rfl) (tm "abs" (by decide +kernel)) (by decide +kernel) (pa_cons (pv 4) pa_nil)))))
    (pss_cons (ps_fldC (clsB T) (noatB T "members" (by decide +kernel)) (pv 0) (pe_op (show OpR _ _ (rbMul K) from ob_mul) (pe_lst (pa_cons pe_non pa_nil)) (pv 2)))
    (pss_cons (ps_fldC (clsB T) (noatB T "inverse" (by decide +kernel)) (pv 0) (pe_lc (own := [("_", 5)]) (g := (gName 5)) rfl sc.nd (pi_range1 rfl (tm "range" (by decide +kernel)) (pa_cons (pv 2) pa_nil)) (blkOk_by (N := ["self", "goal", "many", "k", "number", "_"]) (sc := defScope (meth 20 0)) (by decide +kernel)) (fun _ _ _ _ _ => (pg_name (i := 5) sc.nd rfl (by first | exact Or.inl rfl | exact Or.inr rfl))) (fun _ _ _ _ _ => pts_nil) (fun _ _ _ _ _ => (pe_op (show OpR _ _ (rbMul K) from ob_mul) (pe_lst (pa_cons pe_int pa_nil)) (pv 2)))))
    (pss_one (ps_for PassesOwn.never rfl (pi_range1 rfl (tm "range" (by decide +kernel)) (pa_cons (pv 2) pa_nil)) (pg_name (i := 3) sc.nd rfl (by first | exact Or.inl rfl | exact Or.inr rfl))
      (pss_one (ps_asg (pe_ifExp (pt_cmpR op_lt (pe_ix (show IxR _ (rIxQ K) from ix_any) (pv 1) (pv 3) (fun _ _ => rfl)) pe_int (nomark _)) (pe_un un_neg pe_int) pe_int)
        (pg_sub (pe_ix (show IxR _ (rIxQ K) from ix_any) (pe_fldC (clsB T) (noatB T "inverse" (by decide +kernel)) (pv 0)) (pv 3) (fun _ _ => rfl)) (pv 3) set_list)))))))))), init_pure h⟩
noncomputable def priceE (n : Nat) (cols : List (List Int)) (goal : List Int) : List Int := mk n ((endS n cols goal).price n)
noncomputable def dealE (n : Nat) (cols : List (List Int)) (goal : List Int) : List Int := Sx.red ((endS n cols goal).d :: cnts n cols.length (endS n cols goal))
/-- what the search tells: a deal or a dam, the other is None -/
noncomputable def dealD (n : Nat) (cols : List (List Int)) (goal : List Int) : D := if 0 < (endS n cols goal).lack n then .non else .tup [.int ((dealE n cols goal).headD 0), rowD (dealE n cols goal).tail]
noncomputable def damD (n : Nat) (cols : List (List Int)) (goal : List Int) : D := if 0 < (endS n cols goal).lack n then rowD (Sx.red (priceE n cols goal)) else .non
def w_deal_or_dam : PW := fun ds C => ∃ n cols goal, CG n cols goal ∧ ds = [.lst (cols.map spD), rowD goal] ∧ C (.tup [dealD n cols goal, damD n cols goal])
def w_deal_or_dam_from (Cb : Addr) : OW := fun w ds K => ∃ n cols goal, CG n cols goal ∧ w = bas Cb (stB n (Sx.St.first (Sx.fn goal))) ∧ ds = [.lst (cols.map spD)] ∧ ∀ w', K (.tup [dealD n cols goal, damD n cols goal]) w'
def r_deal_or_dam_from (C : Addr) : DS := (dSeq (dDrop (dCallO 3 (w_gather C) 0 (dCons (dVar 1) (dCons (dC (.bl false)) dNil)))) (dFrzB C 0 (dSeq (dIfS (dTest (dOp (rIB fun i j => decide (j < i)) (dMethV C "lack" 1 v_Basis_lack 0 dNil) (dC (.int 0)))) (dRet (dTup (dCons (dC .non) (dCons (dCallP 1 w_reduced (dCons (dMethV C "stand_in_prices" 1 v_Basis_stand_in_prices 0 dNil) dNil)) dNil)))) dNext) (dRet (dTup (dCons (dCallO 2 (w_told_deal C) 0 (dCons (dCB dLen (dCons (dVar 1) dNil)) dNil)) (dCons (dC .non) dNil)))))))
def r_deal_or_dam (C : Addr) : DS := (dRet (dMkCall C 2 (w_deal_or_dam_from C) 1 (dCons (dVar 0) dNil)))
theorem st_callO {env : Lf.Env} {i n : Nat} {ow : OW} {w : Ow} {da : DA} {ds : List D} {E : DEnds} (hw : env[i]? = some (some (.o w))) (h : EvA da env ds) (l : ds.length + 1 = n) (k : ow w ds fun d w' => keepE env (env.set i (some (.o w'))) ∧ E.nx (env.set i (some (.o w')))) : dDrop (dCallO n ow i da) env E :=
  ⟨⟨w, hw⟩, h _ fun _ e => by subst e; exact ⟨l, keepE_refl, w, hw, k⟩⟩
theorem goodE {n : Nat} {cols : List (List Int)} {goal : List Int} : GoodS n cols goal (endS n cols goal) ∧ ((endS n cols goal).lack n ≤ 0 ∨ ∀ j, j < cols.length → Sx.wth n (endS n cols goal) (colF cols) j ≤ 0) := Sx.Good.gat_end _ Sx.good_first (Nat.le_refl _)
theorem num_le {n : Nat} {cols : List (List Int)} {goal : List Int} {s : Sx.St} (h : CG n cols goal) (G : GoodS n cols goal s) {k i : Nat} (hk : k < n) (hi : i < n) : (s.N k i).natAbs ≤ 2 ^ 4200 := by
  have n60 := h.ok.n60
  rw [← Sx.dot_ev (n := n) (u := s.N k) hi, G.U.cr hk]
  refine Nat.le_trans (Sx.first_abs (b := 2 ^ 64) fun j hj t ht => ?_) ?_
  · rw [Sx.up_app]
    split
    · exact ev_abs i t
    · show (Sx.bm (colF cols) _ s.M j t).natAbs ≤ _
      unfold Sx.bm
      cases e : s.M j with
      | none =>
        show (if t = j then Sx.sgn (Sx.fn goal j) else 0).natAbs ≤ _
        have : (Sx.sgn (Sx.fn goal j)).natAbs = 1 := by unfold Sx.sgn; split <;> rfl
        split
        · rw [this]; decide
        · exact Nat.zero_le _
      | some q => exact colF_abs h q (G.inn j hj q e) t ht
  · have h1 := Sx.fac_le n (by omega)
    have e1 : (64 : Nat) ^ n = 2 ^ (6 * n) := by rw [Nat.pow_mul]
    have e2 : ((2 : Nat) ^ 64) ^ n = 2 ^ (64 * n) := by rw [← Nat.pow_mul]
    rw [e1] at h1
    rw [e2]
    refine Nat.le_trans (Nat.mul_le_mul_right _ h1) ?_
    rw [← Nat.pow_add]
    exact Nat.pow_le_pow_right (by omega) (by omega)
theorem price_wide {n : Nat} {cols : List (List Int)} {goal : List Int} (cg : CG n cols goal) : Wide (priceE n cols goal) := wide_of fun x hx => by
  obtain ⟨i, hi, rfl⟩ := List.mem_map.mp hx
  have hi := List.mem_range.mp hi
  have n60 := cg.ok.n60
  have G := (goodE (n := n) (cols := cols) (goal := goal)).1
  refine Nat.lt_of_le_of_lt (Sx.sm_abs (b := 2 ^ 4200) fun k hk => ?_) ?_
  · split
    · exact num_le cg G hk hi
    · exact Nat.zero_le _
  · refine Nat.lt_of_le_of_lt (Nat.mul_le_mul_right _ n60) ?_
    have e : 60 * 2 ^ 4200 ≤ 2 ^ 6 * 2 ^ 4200 := Nat.mul_le_mul_right _ (by decide)
    refine Nat.lt_of_le_of_lt e ?_
    rw [← Nat.pow_add]
    exact Nat.pow_lt_pow_right (by omega) (by omega)
theorem body_deal_or_dam_from (Cb : Addr) : ∀ (w : Ow) (as : List D) (C : D → Ow → Prop), as.length + 1 = 2 → w_deal_or_dam_from Cb w as C →
    r_deal_or_dam_from Cb (some (.o w) :: env0 (["basis", "columns"].length - 2) as) { nx := fun env' => ∃ w', env'[0]? = some (some (.o w')) ∧ C .non w', rt := fun d env' => ∃ w', env'[0]? = some (some (.o w')) ∧ C d w' } := by
  rintro w as C _ ⟨n, cols, goal, cg, rfl, rfl, h⟩
  have n60 := cg.ok.n60
  have few := cg.ok.few
  have G := (goodE (n := n) (cols := cols) (goal := goal)).1
  have lc : (cols.map spD).length = cols.length := List.length_map ..
  have h := h (recO Cb (stB n (endS n cols goal)).flds)
  refine st_seq (st_callO (w := bas Cb (stB n (Sx.St.first (Sx.fn goal)))) (by rfl) (ea_cons (ev_var (by rfl)) (ea_cons ev_c ea_nil)) rfl ⟨false, n, cols, goal, cg, rfl, rfl, keepE_set, ?_⟩)
  refine ⟨stB n (endS n cols goal), by rfl, ?_⟩
  refine st_seq (st_if1 (p := decide (0 < (endS n cols goal).lack n)) (et_test (ev_op (es_methV (w := recO Cb (stB n (endS n cols goal)).flds) (S := fun d => d = .int ((endS n cols goal).lack n)) (by rfl) asRec_rec rfl ea_nil rfl fun K k => ⟨n, _, rfl, n60, rfl, k _ rfl⟩) ev_c fun C k => rv_ib rfl k)) (fun hq => ?_) fun hq => ?_)
  · have lk := of_decide_eq_true hq
    have e1 : dealD n cols goal = .non := by unfold dealD; rw [if_pos lk]
    have e2 : damD n cols goal = rowD (Sx.red (priceE n cols goal)) := by unfold damD; rw [if_pos lk]
    rw [e1, e2] at h
    refine st_ret1 (d := .tup [.non, rowD (Sx.red (priceE n cols goal))]) (ev_tup (ea_cons ev_c (ea_cons (ev_call (ea_cons (es_methV (w := recO Cb (stB n (endS n cols goal)).flds) (S := fun d => d = lstD (priceE n cols goal)) (by rfl) asRec_rec rfl ea_nil rfl fun K k => ⟨n, _, rfl, n60, rfl, k _ rfl⟩) ea_nil) rfl fun C k => ⟨_, priceE n cols goal, rfl, rfl, by show (mk _ _).length ≤ 1000; rw [mk_len]; omega, price_wide cg, k⟩) ea_nil)) (by show 2 ≤ 100000; decide)) ⟨_, by rfl, h⟩
  · have lk := of_decide_eq_false hq
    have e1 : dealD n cols goal = .tup [.int ((dealE n cols goal).headD 0), rowD (dealE n cols goal).tail] := by unfold dealD; rw [if_neg lk]
    have e2 : damD n cols goal = .non := by unfold damD; rw [if_neg lk]
    rw [e1, e2] at h
    simp only [dNext]
    refine st_ret1 (d := .tup [.tup [.int ((dealE n cols goal).headD 0), rowD (dealE n cols goal).tail], .non]) (ev_tup (ea_cons (es_callO (w := recO Cb (stB n (endS n cols goal)).flds) (by rfl) (ea_cons (ev_cb (ea_cons (ev_var (by rfl)) ea_nil) fun C k => cv_len (xs := cols.map spD) rfl k) ea_nil) rfl fun C q => ⟨n, cols, goal, _, rfl, cg, G, by rw [lc], q _ rfl⟩) (ea_cons ev_c ea_nil)) (by show 2 ≤ 100000; decide)) ⟨_, by rfl, h⟩

theorem body_deal_or_dam (Cb : Addr) : ∀ (as : List D) (C : D → Prop), as.length = 2 → w_deal_or_dam as C → r_deal_or_dam Cb (env0 (["columns", "goal"].length - 2) as) { nx := fun _ => C .non, rt := fun d _ => C d } := by
  rintro as C _ ⟨n, cols, goal, cg, rfl, h⟩
  have n60 := cg.ok.n60
  have glen := cg.glen
  exact st_ret1 (d := .tup [dealD n cols goal, damD n cols goal]) (ev_mkCall (goal := goal) (by rfl) (by omega) (ea_cons (ev_var (by rfl)) ea_nil) rfl fun K k => ⟨n, cols, goal, cg, by rw [new_first glen], rfl, k⟩) h
section
variable {P : Program} {w : World} {K : PySem.W.Frag} {mg : Str → Option Value} {base : Heap}
end
def w_deal_and_dam : PW := fun ds C => ∃ p n cols goal, CG n cols goal ∧ ds = [colsD p cols, rowD goal] ∧ C (.tup [dealD n cols goal, damD n cols goal])
def w_dealt : PW := fun ds C => ∃ p n cols goal, CG n cols goal ∧ ds = [colsD p cols, rowD goal] ∧ C (dealD n cols goal)
def w_dam : PW := fun ds C => ∃ p n cols goal, CG n cols goal ∧ ds = [colsD p cols, rowD goal] ∧ C (damD n cols goal)
def r_deal_and_dam : DS := (dRet (dCallP 2 w_deal_or_dam (dCons (dOfN (dLcN (diSeq (dVar 0)) (dgN 2) [2] dYes (dCallP 1 w_sparse (dCons (dVar 2) dNil)) [2])) (dCons (dVar 1) dNil))))
theorem rows_range {α : Type} (g : List Int → α) (cols : List (List Int)) : cols.map g = (List.range cols.length).map fun j => g (cols.getD j []) := by
  apply List.ext_getElem?
  intro i
  by_cases h : i < cols.length
  · rw [List.getElem?_map, List.getElem?_map, List.getElem?_range h, List.getElem?_eq_getElem h]
    simp [List.getD_eq_getElem?_getD, h]
  · rw [List.getElem?_eq_none (by simp; omega), List.getElem?_eq_none (by simp; omega)]
theorem body_deal_and_dam : ∀ (as : List D) (C : D → Prop), as.length = 2 → w_deal_and_dam as C → r_deal_and_dam (env0 (["columns", "goal", "column"].length - 2) as) { nx := fun _ => C .non, rt := fun d _ => C d } := by
  rintro as C _ ⟨p, n, cols, goal, cg, rfl, h⟩
  have few := cg.ok.few
  have n60 := cg.ok.n60
  refine st_ret1 (d := .tup [dealD n cols goal, damD n cols goal]) (ev_call (ea_cons (ev_of (ea_mapR (x := fun j => rowD (cols.getD j [])) (f := fun j => spD (cols.getD j [])) (n := cols.length) (ei_seq (ev_var (by rfl)) (by rw [cols_items, rows_range])) (by omega) (by simp) (by rfl) fun j hj => ⟨_, tg_n (by rfl), ?_⟩)) (ea_cons (ev_var (by rfl)) ea_nil)) rfl fun C k => ⟨n, cols, goal, cg, by rw [rows_range spD], k⟩) h
  have cl := colF_len cg.ok hj
  exact ev_call (ea_cons (ev_var (by rfl)) ea_nil) rfl fun C k => ⟨cols.getD j [], rfl, by omega, k⟩
def r_dealt : DS := (dSeq (dDrop (dCallP 2 w_check_deal (dCons (dVar 0) (dCons (dVar 1) dNil)))) (dRet (dOp dIx (dCallP 2 w_deal_and_dam (dCons (dVar 0) (dCons (dVar 1) dNil))) (dC (.int 0)))))
theorem body_dealt : ∀ (as : List D) (C : D → Prop), as.length = 2 → w_dealt as C → r_dealt (env0 (["columns", "goal"].length - 2) as) { nx := fun _ => C .non, rt := fun d _ => C d } := by
  rintro as C _ ⟨p, n, cols, goal, cg, rfl, h⟩
  refine st_seq (st_drop (S := fun d => d = .non) (ev_call (ea_cons (ev_var (by rfl)) (ea_cons (ev_var (by rfl)) ea_nil)) rfl fun C k => ⟨p, cols, n, goal, rfl, cg.ok, cg.glen, k⟩) ?_)
  exact st_ret1 (d := dealD n cols goal) (ev_op (ev_call (ea_cons (ev_var (by rfl)) (ea_cons (ev_var (by rfl)) ea_nil)) rfl fun C k => ⟨p, n, cols, goal, cg, rfl, k⟩) ev_c fun C k => rv_ixT (i := 0) rfl k) h
section
variable {P : Program} {w : World} {K : PySem.W.Frag} {mg : Str → Option Value} {base : Heap}
theorem sc_deal_or_dam_from : FnScope ["basis", "columns"] ["basis", "columns"] (defScope (top 32)) := ⟨rfl, rfl, rfl, by decide +kernel, rfl, by decide +kernel, by decide +kernel⟩
theorem ok_deal_or_dam_from (T : Top P w K mg) : Fn P w K mg base 5 "deal_or_dam_from" ["basis", "columns"] (OSp 2 (w_deal_or_dam_from (He.ga K "Basis"))) := by
  obtain ⟨fd, F⟩ := T.fn 21 (x := "deal_or_dam_from") (st := (top 32)) rfl
  have sc := sc_deal_or_dam_from
  have tm : ∀ x, x ∈ frees → mg x = none := fun x hx => T.free x (mem_free hx)
  refine ⟨⟨fd, F.ok sc (fun vs H Q E h => h.len) (fun cdv A outer s H vs Q E hr h => ?d), F.bindsN fun _ _ _ _ _ _ us hl => match us, hl with | [_, _], _ => rfl⟩, T.glo "deal_or_dam_from" (mem_glo (by decide +kernel)), F.kp⟩
  exact ⟨_, PSs.nox (pss_cons (ps_expr (pe_fO (ok_gather T) (hr.mono (by decide)) (by rfl) 0 (pa_cons (pv 0) (pa_cons (pv 1) (pa_cons pe_bl pa_nil))))) (pss_frzB (He.ga K "Basis") 0 (pss_cons (ps_if (pt_cmpR op_gt (pe_methV (pe_m0 (clsB T) (methB T "lack" (by decide +kernel)) (ok_Basis_lack T) (hr.mono (by decide)) (pv 0))) pe_int (nomark _)) (pss_one (ps_ret (pe_tup (pa_cons pe_non (pa_cons (pe_f (ok_reduced T) (hr.mono (by decide)) rfl (pa_cons (pe_methV (pe_m0 (clsB T) (methB T "stand_in_prices" (by decide +kernel)) (ok_Basis_stand_in_prices T) (hr.mono (by decide)) (pv 0))) pa_nil)) pa_nil))))) pss_nil) (pss_one (ps_ret (pe_tup (pa_cons (pe_fO (ok_told_deal T) hr (by rfl) 0 (pa_cons (pv 0) (pa_cons (pe_callB (show CallR _ _ (rLenQ K) from cl_len) (by rfl) (tm "len" (by decide +kernel)) (by decide +kernel) (pa_cons (pv 1) pa_nil)) pa_nil))) (pa_cons pe_non pa_nil)))))))), os_body h (ds := (r_deal_or_dam_from (He.ga K "Basis"))) inferInstance (body_deal_or_dam_from (He.ga K "Basis"))⟩
theorem sc_deal_or_dam : FnScope ["columns", "goal"] ["columns", "goal"] (defScope (top 34)) := ⟨rfl, rfl, rfl, by decide +kernel, rfl, by decide +kernel, by decide +kernel⟩
theorem ok_deal_or_dam (T : Top P w K mg) : Fn P w K mg base 6 "deal_or_dam" ["columns", "goal"] (PSp 2 w_deal_or_dam) := by
  obtain ⟨fd, F⟩ := T.fn 23 (x := "deal_or_dam") (st := (top 34)) rfl
  have sc := sc_deal_or_dam
  have tm : ∀ x, x ∈ frees → mg x = none := fun x hx => T.free x (mem_free hx)
  obtain ⟨fdI, FI, bI⟩ := ok_Basis___init__ T (base := base)
  refine ⟨⟨fd, F.ok sc (fun vs H Q E h => h.len) (fun cdv A outer s H vs Q E hr h => ?d), F.bindsN fun _ _ _ _ _ _ us hl => match us, hl with | [_, _], _ => rfl⟩, T.glo "deal_or_dam" (mem_glo (by decide +kernel)), F.kp⟩
  exact ⟨_, PSs.nox (pss_one (ps_ret (pe_mkCall (pe_f (ok_deal_or_dam_from T) hr rfl (pa_cons (pe_make (mkrB T) FI (hr.mono (by decide)) (by rfl) (T.glo "Basis" (mem_glo (by decide +kernel))) bI .nil pass0 (pa_cons (pv 1) pa_nil)) (pa_cons (pv 0) pa_nil)))))), ps_body h (ds := (r_deal_or_dam (He.ga K "Basis"))) inferInstance (body_deal_or_dam (He.ga K "Basis"))⟩
theorem sc_deal_and_dam : FnScope ["columns", "goal", "column"] ["columns", "goal"] (defScope (top 39)) := ⟨rfl, rfl, rfl, by decide +kernel, rfl, by decide +kernel, by decide +kernel⟩
theorem ok_deal_and_dam (T : Top P w K mg) : Fn P w K mg base 7 "deal_and_dam" ["columns", "goal"] (PSp 2 w_deal_and_dam) := by
  obtain ⟨fd, F⟩ := T.fn 27 (x := "deal_and_dam") (st := (top 39)) rfl
  have sc := sc_deal_and_dam
  have tm : ∀ x, x ∈ frees → mg x = none := fun x hx => T.free x (mem_free hx)
  refine ⟨⟨fd, F.ok sc (fun vs H Q E h => h.len) (fun cdv A outer s H vs Q E hr h => ?d), F.bindsN fun _ _ _ _ _ _ us hl => match us, hl with | [_, _], _ => rfl⟩, T.glo "deal_and_dam" (mem_glo (by decide +kernel)), F.kp⟩
  exact ⟨_, PSs.nox (pss_one (ps_ret (pe_f (ok_deal_or_dam T) hr rfl (pa_cons (pe_lc (own := [("column", 2)]) (g := (gName 2)) rfl sc.nd (pi_seq (pv 0)) (blkOk_by (N := ["columns", "goal", "column"]) (sc := defScope (top 39)) (by decide +kernel)) (fun _ _ _ _ _ => (pg_name (i := 2) sc.nd rfl (by first | exact Or.inl rfl | exact Or.inr rfl))) (fun _ _ _ _ _ => pts_nil) (fun _ _ _ _ _ => (pe_f (ok_sparse T) (hr.mono (by decide)) rfl (pa_cons (pv 2) pa_nil)))) (pa_cons (pv 1) pa_nil))))), ps_body h (ds := r_deal_and_dam) inferInstance body_deal_and_dam⟩
theorem sc_dealt : FnScope ["columns", "goal"] ["columns", "goal"] (defScope (top 40)) := ⟨rfl, rfl, rfl, by decide +kernel, rfl, by decide +kernel, by decide +kernel⟩
theorem ok_dealt (T : Top P w K mg) : Fn P w K mg base 8 "dealt" ["columns", "goal"] (PSp 2 w_dealt) := by
  obtain ⟨fd, F⟩ := T.fn 28 (x := "dealt") (st := (top 40)) rfl
  have sc := sc_dealt
  have tm : ∀ x, x ∈ frees → mg x = none := fun x hx => T.free x (mem_free hx)
  refine ⟨⟨fd, F.ok sc (fun vs H Q E h => h.len) (fun cdv A outer s H vs Q E hr h => ?d), F.bindsN fun _ _ _ _ _ _ us hl => match us, hl with | [_, _], _ => rfl⟩, T.glo "dealt" (mem_glo (by decide +kernel)), F.kp⟩
  exact ⟨_, PSs.nox (pss_cons (ps_expr (pe_f (ok_check_deal T) (hr.mono (by decide)) rfl (pa_cons (pv 0) (pa_cons (pv 1) pa_nil)))) (pss_one (ps_ret (pe_ix (show IxR _ (fun x y H Q => rIxL K x y H Q ∨ rIxT K x y H Q) from ix_any) (pe_f (ok_deal_and_dam T) hr rfl (pa_cons (pv 0) (pa_cons (pv 1) pa_nil))) pe_int (fun _ _ => rfl))))), ps_body h (ds := r_dealt) inferInstance body_dealt⟩

end
end K04
set_option Elab.async false
set_option linter.all false
set_option maxRecDepth 100000
set_option maxHeartbeats 4000000
set_option synthInstance.maxHeartbeats 4000000
set_option synthInstance.maxSize 100000
namespace K04
open PySem PySem.Spec PyProof.Rows L2 RZ Lf
/-- a dam is there -/
def HasDam (n : Nat) (cols : List (List Int)) (goal : List Int) : Prop := ∃ w : Sx.Vec, (∀ r ∈ cols, Sx.dot n w (Sx.fn r) ≤ 0) ∧ 0 < Sx.dot n w (Sx.fn goal)
theorem colF_mem {cols : List (List Int)} {j : Nat} (hj : j < cols.length) : ∃ r ∈ cols, colF cols j = Sx.fn r := ⟨cols.getD j [], by
  rw [List.getD_eq_getElem?_getD, List.getElem?_eq_getElem hj]; exact List.getElem_mem hj, rfl⟩
theorem dot_red {n : Nat} {r : List Int} {x : Sx.Vec} : Sx.dot n (Sx.fn r) x = (Sx.redG r : Int) * Sx.dot n (Sx.fn (Sx.red r)) x := by
  unfold Sx.dot
  rw [← Sx.sm_mul]
  exact Sx.sm_congr fun i _ => by rw [Sx.red_at r i]; exact Int.mul_assoc ..
theorem damE_ok {n : Nat} {cols : List (List Int)} {goal : List Int} (cg : CG n cols goal) (h : 0 < (endS n cols goal).lack n) : DamOk n cols goal (Sx.red (priceE n cols goal)) := by
  obtain ⟨G, e⟩ := goodE (n := n) (cols := cols) (goal := goal)
  have e : ∀ j, j < cols.length → Sx.wth n (endS n cols goal) (colF cols) j ≤ 0 := e.resolve_left (by omega)
  have gp : (0 : Int) < (Sx.redG (priceE n cols goal) : Int) := by have := Sx.redG_pos (priceE n cols goal); omega
  have pr : ∀ x : Sx.Vec, Sx.dot n (Sx.fn (priceE n cols goal)) x = Sx.dot n ((endS n cols goal).price n) x := fun x => Sx.dot_congr (fun i hi => mk_at hi) fun _ _ => rfl
  refine ⟨by rw [Sx.red_len]; exact mk_len _ _, fun r hr => ?_, ?_⟩
  · obtain ⟨j, hj⟩ := List.mem_iff_getElem?.mp hr
    have hl := (List.getElem?_eq_some_iff.mp hj).1
    have h1 := e j hl
    unfold Sx.wth at h1
    rw [colF_of hj, ← pr, dot_red] at h1
    by_cases q : Sx.dot n (Sx.fn (Sx.red (priceE n cols goal))) (Sx.fn r) ≤ 0
    · exact q
    · have := Int.mul_pos gp (show 0 < Sx.dot n (Sx.fn (Sx.red (priceE n cols goal))) (Sx.fn r) by omega)
      omega
  · have h1 := G.price_goal
    rw [← pr, dot_red] at h1
    by_cases q : 0 < Sx.dot n (Sx.fn (Sx.red (priceE n cols goal))) (Sx.fn goal)
    · exact q
    · have := Int.mul_nonpos_of_nonneg_of_nonpos (Int.le_of_lt gp) (show Sx.dot n (Sx.fn (Sx.red (priceE n cols goal))) (Sx.fn goal) ≤ 0 by omega)
      omega
theorem cons_head {r : List Int} {k : Nat} (h : r.length = k + 1) : r = r.headD 0 :: r.tail := by
  cases r with
  | nil => simp at h
  | cons a r => rfl
theorem dealE_ok {n : Nat} {cols : List (List Int)} {goal : List Int} (cg : CG n cols goal) (h : ¬ 0 < (endS n cols goal).lack n) : DealOk n cols goal ((dealE n cols goal).headD 0) (dealE n cols goal).tail := by
  obtain ⟨G, _⟩ := goodE (n := n) (cols := cols) (goal := goal)
  have d0 : 0 < (endS n cols goal).d := G.U.pos
  have lenA : ((endS n cols goal).d :: cnts n cols.length (endS n cols goal)).length = cols.length + 1 := by
    rw [List.length_cons]; exact congrArg (· + 1) (mk_len _ _)
  have lenE : (dealE n cols goal).length = cols.length + 1 := by unfold dealE; rw [Sx.red_len]; exact lenA
  have ex := cons_head lenE
  have at_ : ∀ i, Sx.fn ((endS n cols goal).d :: cnts n cols.length (endS n cols goal)) i = (Sx.redG ((endS n cols goal).d :: cnts n cols.length (endS n cols goal)) : Int) * Sx.fn (dealE n cols goal) i := fun i => Sx.red_at _ i
  have gp := Sx.redG_pos ((endS n cols goal).d :: cnts n cols.length (endS n cols goal))
  generalize hg : Sx.redG ((endS n cols goal).d :: cnts n cols.length (endS n cols goal)) = g at at_ gp
  have gp' : (0 : Int) < (g : Int) := by omega
  have a0 : (endS n cols goal).d = (g : Int) * (dealE n cols goal).headD 0 := by
    have := at_ 0
    rw [ex] at this
    exact this
  have aj : ∀ j, j < cols.length → (endS n cols goal).count n j = (g : Int) * Sx.fn (dealE n cols goal).tail j := fun j hj => by
    have := at_ (j + 1)
    rw [ex] at this
    rw [Sx.fn_succ, Sx.fn_succ] at this
    rw [← this]
    exact (mk_at hj).symm
  have nz : Sx.gcdL ((endS n cols goal).d :: cnts n cols.length (endS n cols goal)) ≠ 0 := fun z => by
    have := Sx.gcd_zero z _ List.mem_cons_self
    omega
  have pos_of : ∀ x : Int, 0 < (g : Int) * x → 0 < x := fun x hx => by
    by_cases q : 0 < x
    · exact q
    · have := Int.mul_nonpos_of_nonneg_of_nonpos (Int.le_of_lt gp') (show x ≤ 0 by omega); omega
  have nn_of : ∀ x : Int, 0 ≤ (g : Int) * x → 0 ≤ x := fun x hx => by
    by_cases q : 0 ≤ x
    · exact q
    · have := Int.mul_pos gp' (show 0 < -x by omega)
      rw [Int.mul_neg] at this; omega
  refine ⟨?_, by rw [List.length_tail, lenE]; omega, fun c hc => ?_, fun i hi => ?_, ?_⟩
  · have := pos_of ((dealE n cols goal).headD 0) (by rw [← a0]; exact d0)
    omega
  · obtain ⟨j, hj⟩ := List.mem_iff_getElem?.mp hc
    have hl := (List.getElem?_eq_some_iff.mp hj).1
    have lt : (dealE n cols goal).tail.length = cols.length := by rw [List.length_tail, lenE]; omega
    rw [← Sx.fn_of hj]
    refine nn_of _ ?_
    rw [← aj j (by omega)]
    exact G.count_nonneg j
  · have := G.deal (by omega) hi
    have e1 : Sx.sm cols.length (fun j => (endS n cols goal).count n j * colF cols j i) = (g : Int) * Sx.sm cols.length fun j => Sx.fn (dealE n cols goal).tail j * colF cols j i := by
      rw [← Sx.sm_mul]
      exact Sx.sm_congr fun j hj => by rw [aj j hj]; exact Int.mul_assoc ..
    rw [e1, a0, Int.mul_assoc] at this
    exact Int.eq_of_mul_eq_mul_left (by omega) this
  · rw [← ex]
    exact Sx.red_gcd nz
theorem lack_dam {n : Nat} {cols : List (List Int)} {goal : List Int} (cg : CG n cols goal) : 0 < (endS n cols goal).lack n ↔ HasDam n cols goal := by
  constructor
  · intro h
    have dk := damE_ok cg h
    exact ⟨_, dk.col, dk.goal⟩
  · rintro ⟨w, h1, h2⟩
    refine Classical.byContradiction fun z => ?_
    have dk := dealE_ok cg z
    refine Sx.never_both (m := cols.length) (C := colF cols) (cnt := Sx.fn (dealE n cols goal).tail) (d := (dealE n cols goal).headD 0) (by have := dk.s1; omega) (fun j hj => ?_) dk.sum (fun j hj => ?_) h2
    · exact dk.nn _ (Sx.fn_mem (by rw [dk.len]; exact hj))
    · obtain ⟨r, hr, e⟩ := colF_mem hj
      rw [e]; exact h1 r hr
/-- what is told, by cases -/
theorem told_cases {n : Nat} {cols : List (List Int)} {goal : List Int} (cg : CG n cols goal) :
    (HasDam n cols goal ∧ dealD n cols goal = .non ∧ ∃ w, DamOk n cols goal w ∧ damD n cols goal = rowD w) ∨ (¬ HasDam n cols goal ∧ damD n cols goal = .non ∧ ∃ s cnt, DealOk n cols goal s cnt ∧ dealD n cols goal = .tup [.int s, rowD cnt]) := by
  by_cases q : 0 < (endS n cols goal).lack n
  · exact .inl ⟨(lack_dam cg).mp q, by unfold dealD; rw [if_pos q], _, damE_ok cg q, by unfold damD; rw [if_pos q]⟩
  · exact .inr ⟨fun z => q ((lack_dam cg).mpr z), by unfold damD; rw [if_neg q], _, _, dealE_ok cg q, by unfold dealD; rw [if_neg q]⟩
theorem flat_two {s : Int} {cnt : List Int} : flat 2 (.tup [.int s, rowD cnt]) := flat_tup fun x hx => by
  rcases List.mem_cons.mp hx with rfl | hx
  · exact flat_int.mono (by decide)
  · have : x = rowD cnt := by simpa using hx
    subst this; exact flat_row
theorem flat_deal {n : Nat} {cols : List (List Int)} {goal : List Int} (cg : CG n cols goal) : flat 2 (dealD n cols goal) := by
  rcases told_cases cg with ⟨_, e, _⟩ | ⟨_, _, s, cnt, _, e⟩
  · rw [e]; exact flat_non.mono (by decide)
  · rw [e]; exact flat_two
theorem flat_dam {n : Nat} {cols : List (List Int)} {goal : List Int} (cg : CG n cols goal) : flat 2 (damD n cols goal) := by
  rcases told_cases cg with ⟨_, _, w, _, e⟩ | ⟨_, e, _⟩
  · rw [e]; exact flat_row.mono (by decide)
  · rw [e]; exact flat_non.mono (by decide)
section
variable {P : Program} {w : World} {K : PySem.W.Frag} {mg : Str → Option Value} {base : Heap}

end
end K04
set_option Elab.async false
set_option linter.all false
set_option maxRecDepth 100000
set_option maxHeartbeats 4000000
set_option synthInstance.maxHeartbeats 4000000
set_option synthInstance.maxSize 100000
namespace K04
open PySem PySem.Spec PyProof.Rows L2 RZ Lf
/-- the members are columns, each once -/
structure Memb (n m : Nat) (s : Sx.St) : Prop where
  inn : ∀ k, k < n → ∀ j, s.M k = some j → j < m
  one : ∀ k r j, k < n → r < n → s.M k = some j → s.M r = some j → k = r
theorem GoodS.memb {n : Nat} {cols : List (List Int)} {goal : List Int} {s : Sx.St} (G : GoodS n cols goal s) : Memb n cols.length s := ⟨G.inn, fun k r j hk hr h1 h2 => G.members hk hr h1 h2⟩
def v_cost_prices : VW := fun fs ds C => ∃ n s m x p, ∃ c : List Int, fs = (stB n s).flds ∧ n ≤ 60 ∧ Memb n m s ∧ ds = [x] ∧ x.seq? = some (p, c.map .int) ∧ c.length = m ∧ Small c ∧ C (lstD (mk n fun i => Sx.wsum n (Sx.cw (Sx.fn c)) s (i + 1)))
def r_cost_prices (C : Addr) : DA := (dCons (dOfN (dLcN (diSeq (dFld C 0 "members")) (dgN 2) [2] dYes (dIf (dTest (dOp dIsN (dVar 2) (dC .non))) (dC (.int 0)) (dOp dIx (dVar 1) (dVar 2))) [2])) dNil)
theorem body_cost_prices (Cb : Addr) : ∀ (fs : Flds) (as : List D) (C : D → Prop), as.length + 1 = 2 → v_cost_prices fs as C → fs.lookup ("priced" : Str) = none ∧ r_cost_prices Cb (some (.o (recO Cb fs)) :: env0 (["basis", "costs", "member"].length - 2) as) fun ds env1 => env1[0]? = some (some (.o (recO Cb fs))) ∧ ds.length + 1 = 2 ∧ v_Basis_priced fs ds C := by
  rintro fs as C _ ⟨n, s, m, x, p, c, rfl, hn, mb, rfl, hx, hc, sm, h⟩
  refine ⟨rfl, ?_⟩
  have at_ : ∀ k, k < n → ∀ j, s.M k = some j → (c.map D.int)[j]? = some (.int (Sx.fn c j)) := fun k hk j e => by
    rw [List.getElem?_map, Sx.fn_at (by rw [hc]; exact mb.inn k hk j e)]; rfl
  refine ea_cons (ev_of (ea_mapR (x := fun k => memD (s.M k)) (f := fun k => .int (Sx.cw (Sx.fn c) (s.M k))) (ei_seq (ev_fld (by rfl) (fl_members n s)) rfl) (by omega) (by simp) (by rfl) fun k hk => ⟨_, tg_n (by rfl), ?_⟩)) ea_nil _ ?_
  · refine ev_if (p := decide (s.M k = none)) (et_test (ev_op (ev_var (by rfl)) ev_c fun C q => rv_isN (memD_isN _) q)) (fun e => ?_) fun e => ?_
    · rw [of_decide_eq_true e]; exact ev_c
    · cases q : s.M k with
      | none => exact absurd q (of_decide_eq_false e)
      | some j => exact ev_op (ev_var (by rfl)) (ev_var (d := .int (j : Nat)) (by rfl)) fun C k2 => rv_ix hx (at_ k hk j q) k2
  · rintro ds rfl
    refine ⟨by rfl, rfl, n, s, fun k => Sx.cw (Sx.fn c) (s.M k), rfl, hn, by unfold lstD; rw [mk_int], fun k hk => ?_, h⟩
    show (Sx.cw (Sx.fn c) (s.M k)).natAbs < 2 ^ 64
    cases q : s.M k with
    | none => show (0 : Int).natAbs < _; decide
    | some j => exact sm _ (Sx.fn_mem (by rw [hc]; exact mb.inn k hk j q))
/-- the counts of what comes in without end -/
def cE (n : Nat) (s : Sx.St) (lf : Nat → Int) (j : Nat) (i : Nat) (t : Nat) : Int := if t = j then s.d else Sx.sm i fun k => if s.M k = some t then - lf k else 0
def w_endless_counts (Cb : Addr) : OW := fun w ds K => ∃ n s m, ∃ (j : Nat) (lf : Nat → Int), w = recO Cb (stB n s).flds ∧ n ≤ 60 ∧ m ≤ 400 ∧ j < m ∧ Memb n m s ∧ (∀ k, k < n → s.M k ≠ some j) ∧ 0 < s.d ∧ s.d.natAbs < 2 ^ 8000 ∧ ds = [.int (m : Nat), .int (j : Nat), lstD (mk n lf)] ∧
  K (rowD (Sx.red (mk m (cE n s lf j n)))) (recO Cb (stB n s).flds)
def r_endless_counts (C : Addr) : DS := (dSeq (dAsgO (dNewRep (.int 0) (dVar 1)) 4) (dSeq (dSetO 4 2 (dFld C 0 "scale")) (dSeq (dFor (diZipS (dCons (dFld C 0 "members") (dCons (dVar 3) dNil))) (dgTup 2 (dgCons (dgN 5) (dgCons (dgN 6) dgNil))) (dIfS (dTest (dOp dNotN (dVar 5) (dC .non))) (dSetO 4 5 (dUn (dI1 fun i => -i) (dVar 6))) dNext)) (dFrz 4 (dRet (dCallP 1 w_reduced (dCons (dVar 4) dNil)))))))
theorem body_endless_counts (Cb : Addr) : ∀ (w : Ow) (as : List D) (C : D → Ow → Prop), as.length + 1 = 4 → w_endless_counts Cb w as C →
    r_endless_counts Cb (some (.o w) :: env0 (["basis", "many", "entering", "lift", "counts", "member", "number"].length - 4) as) { nx := fun env' => ∃ w', env'[0]? = some (some (.o w')) ∧ C .non w', rt := fun d env' => ∃ w', env'[0]? = some (some (.o w')) ∧ C d w' } := by
  rintro w as C _ ⟨n, s, m, j, lf, rfl, n60, m400, hj, mb, out, d0, db, rfl, h⟩
  refine st_seq (st_asgO (T := fun xs => xs = List.replicate m (.int 0)) (ea_rep (ev_var (by rfl)) (by omega)) (by rfl) ?_)
  rintro xs rfl
  have z0 : List.replicate m (D.int 0) = (mk m fun _ => 0).map D.int := by
    have := rep_zero m
    rw [flat_rep] at this
    exact this
  rw [z0]
  dsimp only
  have z1 : ((mk m fun _ => (0 : Int)).map D.int).set j (.int s.d) = (mk m (cE n s lf j 0)).map D.int := by
    rw [mk_int, mk_int, range_set]
    refine List.map_congr_left fun t _ => ?_
    unfold cE
    by_cases z : t = j
    · rw [if_pos z, if_pos z]
    · rw [if_neg z, if_neg z]; rfl
  refine st_seq (st_setO (d := .int s.d) (k := j) (ev_fld (by rfl) (fl_scale n s)) (by rfl) (by rfl) (by rw [List.length_map, mk_len]; exact hj) ?_)
  rw [z1]
  dsimp only
  refine st_seq (st_for (xs := (List.range n).map fun k => .tup [memD (s.M k), .int (lf k)]) (fun i e => ∃ t u : Option D, i ≤ n ∧ e = [some (.o (recO Cb (stB n s).flds)), some (.d (.int (m : Nat))), some (.d (.int (j : Nat))), some (.d (lstD (mk n lf))), some (.l ((mk m (cE n s lf j i)).map .int)), t.map .d, u.map .d]) ?_ ⟨none, none, Nat.zero_le _, by rfl⟩ ?_ ?_)
  · rw [← zip_range]
    exact ei_zip (p := false) (q := false) (ea_cons (ev_fld (by rfl) (fl_members n s)) (ea_cons (ev_var (by rfl)) ea_nil)) rfl (by unfold lstD; rw [mk_int]; rfl)
  · rintro i x e hx ⟨t, u, _, rfl⟩
    have hlt : i < n := by
      have := (List.getElem?_eq_some_iff.mp hx).1
      simpa using this
    have ex : x = .tup [memD (s.M i), .int (lf i)] := by
      rw [List.getElem?_map, List.getElem?_range hlt] at hx
      simpa using hx.symm
    subst ex
    refine ⟨_, tg_two (by cases t <;> rfl) (by cases t <;> cases u <;> rfl), ?_⟩
    refine st_if1 (p := !decide (s.M i = none)) (et_test (ev_op (ev_var (by rfl)) ev_c fun C k => rv_notN (by rw [memD_isN]) k)) (fun hq => ?_) fun hq => ?_
    · obtain ⟨t0, ht⟩ : ∃ t0, s.M i = some t0 := by
        cases q : s.M i with
        | none => simp [q] at hq
        | some t0 => exact ⟨t0, rfl⟩
      have tl := mb.inn i hlt t0 ht
      have tj : t0 ≠ j := fun z => out i hlt (by rw [ht, z])
      refine st_setO (d := .int (- lf i)) (k := t0) (ev_un (ev_var (d := .int (lf i)) (by rfl)) fun C k => ⟨_, rfl, k⟩) (by rfl) (by rw [ht]; rfl) (by rw [List.length_map, mk_len]; exact tl) ⟨some (memD (s.M i)), some (.int (lf i)), hlt, ?_⟩
      have e : ((mk m (cE n s lf j i)).map D.int).set t0 (.int (- lf i)) = (mk m (cE n s lf j (i + 1))).map D.int := by
        rw [mk_int, mk_int, range_set]
        refine List.map_congr_left fun k _ => ?_
        unfold cE
        by_cases z : k = t0
        · subst z
          rw [if_pos rfl, if_neg tj]
          show D.int (- lf i) = D.int (Sx.sm i (fun r => if s.M r = some k then - lf r else 0) + if s.M i = some k then - lf i else 0)
          rw [if_pos ht, Sx.sm_zero fun r hr => if_neg fun q => by have := mb.one r i k (by omega) hlt q ht; omega, Int.zero_add]
        · rw [if_neg z]
          by_cases w : k = j
          · rw [if_pos w, if_pos w]
          · rw [if_neg w, if_neg w]
            show D.int (Sx.sm i _) = D.int (Sx.sm i (fun r => if s.M r = some k then - lf r else 0) + if s.M i = some k then - lf i else 0)
            have : ¬ s.M i = some k := fun q => z (by rw [ht] at q; simpa using q.symm)
            rw [if_neg this, Int.add_zero]
      rw [e]; rfl
    · refine ⟨some (memD (s.M i)), some (.int (lf i)), hlt, ?_⟩
      have hM : s.M i = none := by simpa using hq
      have e : mk m (cE n s lf j (i + 1)) = mk m (cE n s lf j i) := mk_congr fun k _ => by
        unfold cE
        split
        · rfl
        · show Sx.sm i (fun r => if s.M r = some k then - lf r else 0) + (if s.M i = some k then - lf i else 0) = _
          rw [hM]; simp
      rw [e]; rfl
  · rintro e ⟨t, u, _, rfl⟩
    rw [List.length_map, List.length_range]
    refine st_frz (xs := (mk m (cE n s lf j n)).map .int) (by rfl) ?_
    refine st_ret1 (ev_call (ea_cons (ev_var (by rfl)) ea_nil) rfl fun C k => ⟨_, mk m (cE n s lf j n), rfl, rfl, by rw [mk_len]; omega, ?_, k⟩) ⟨_, by rfl, h⟩
    have mem : s.d ∈ mk m (cE n s lf j n) := List.mem_map.mpr ⟨j, List.mem_range.mpr hj, by unfold cE; rw [if_pos rfl]⟩
    exact Nat.lt_of_le_of_lt (Sx.gcd_le mem (by omega)) db
section
variable {P : Program} {w : World} {K : PySem.W.Frag} {mg : Str → Option Value} {base : Heap}
theorem sc_cost_prices : FnScope ["basis", "costs", "member"] ["basis", "costs"] (defScope (top 27)) := ⟨rfl, rfl, rfl, by decide +kernel, rfl, by decide +kernel, by decide +kernel⟩
theorem ok_cost_prices (T : Top P w K mg) : Fn P w K mg base 2 "cost_prices" ["basis", "costs"] (VSp (He.ga K "Basis") 2 v_cost_prices) := by
  obtain ⟨fd, F⟩ := T.fn 16 (x := "cost_prices") (st := (top 27)) rfl
  have sc := sc_cost_prices
  have tm : ∀ x, x ∈ frees → mg x = none := fun x hx => T.free x (mem_free hx)
  refine ⟨⟨fd, F.ok sc (fun vs H Q E h => h.len) (fun cdv A outer s H vs Q E hr h => ?d), F.bindsN fun _ _ _ _ _ _ us hl => match us, hl with | [_, _], _ => rfl⟩, T.glo "cost_prices" (mem_glo (by decide +kernel)), F.kp⟩
  exact ⟨_, PSs.nox (pss_one (ps_ret (pe_methV (pe_m (clsB T) (methB T "priced" (by decide +kernel)) (ok_Basis_priced T) hr (pv 0) (pa_cons (pe_lc (own := [("member", 2)]) (g := (gName 2)) rfl sc.nd (pi_seq (pe_fldC (clsB T) (noatB T "members" (by decide +kernel)) (pv 0))) (blkOk_by (N := ["basis", "costs", "member"]) (sc := defScope (top 27)) (by decide +kernel)) (fun _ _ _ _ _ => (pg_name (i := 2) sc.nd rfl (by first | exact Or.inl rfl | exact Or.inr rfl))) (fun _ _ _ _ _ => pts_nil) (fun _ _ _ _ _ => (pe_ifExp (pt_cmpR op_isN1 (pv 2) pe_non (nomark _)) pe_int (pe_ix (show IxR _ (fun x y H Q => rIxL K x y H Q ∨ rIxT K x y H Q) from ix_any) (pv 1) (pv 2) (fun _ _ => rfl))))) pa_nil))))), vs_pass h (dA := (r_cost_prices (He.ga K "Basis"))) inferInstance (body_cost_prices (He.ga K "Basis"))⟩
theorem sc_endless_counts : FnScope ["basis", "many", "entering", "lift", "counts", "member", "number"] ["basis", "many", "entering", "lift"] (defScope (top 29)) := ⟨rfl, rfl, rfl, by decide +kernel, rfl, by decide +kernel, by decide +kernel⟩
theorem ok_endless_counts (T : Top P w K mg) : Fn P w K mg base 3 "endless_counts" ["basis", "many", "entering", "lift"] (OSp 4 (w_endless_counts (He.ga K "Basis"))) := by
  obtain ⟨fd, F⟩ := T.fn 18 (x := "endless_counts") (st := (top 29)) rfl
  have sc := sc_endless_counts
  have tm : ∀ x, x ∈ frees → mg x = none := fun x hx => T.free x (mem_free hx)
  refine ⟨⟨fd, F.ok sc (fun vs H Q E h => h.len) (fun cdv A outer s H vs Q E hr h => ?d), F.bindsN fun _ _ _ _ _ _ us hl => match us, hl with | [_, _, _, _], _ => rfl⟩, T.glo "endless_counts" (mem_glo (by decide +kernel)), F.kp⟩
  exact ⟨_, PSs.nox (pss_cons (ps_own (ps_set (i := 4) sc.nd rfl (by first | exact Or.inl rfl | exact Or.inr rfl) (pe_repO (K := K) (pe_op (show OpR _ _ (rbMul K) from ob_mul) (pe_lst (pa_cons pe_int pa_nil)) (pv 1))))) (pss_cons (ps_setO (ps_asg (pe_fldC (clsB T) (noatB T "scale" (by decide +kernel)) (pv 0)) (pg_sub (pv 4) (pv 2) set_list))) (pss_cons (ps_for PassesOwn.never rfl (pi_zipS rfl (tm "zip" (by decide +kernel)) (pa_cons (pe_fldC (clsB T) (noatB T "members" (by decide +kernel)) (pv 0)) (pa_cons (pv 3) pa_nil))) (pg_tup (n := 2) rfl (pgs_cons (pg_name (i := 5) sc.nd rfl (by first | exact Or.inl rfl | exact Or.inr rfl)) (pgs_cons (pg_name (i := 6) sc.nd rfl (by first | exact Or.inl rfl | exact Or.inr rfl)) pgs_nil))) (pss_one (ps_if (pt_cmpR op_notN1 (pv 5) pe_non (nomark _)) (pss_one (ps_setO (ps_asg (pe_un un_neg (pv 6)) (pg_sub (pv 4) (pv 5) set_list)))) pss_nil))) (pss_frz 4 (pss_one (ps_ret (pe_f (ok_reduced T) hr rfl (pa_cons (pv 4) pa_nil)))))))), os_body h (ds := (r_endless_counts (He.ga K "Basis"))) inferInstance (body_endless_counts (He.ga K "Basis"))⟩

end
end K04
set_option Elab.async false
set_option linter.all false
set_option maxRecDepth 100000
set_option maxHeartbeats 4000000
set_option synthInstance.maxHeartbeats 4000000
set_option synthInstance.maxSize 100000
namespace K04
open PySem PySem.Spec PyProof.Rows L2 RZ Lf
/-- what may come in: no toll -/
def frL (n : Nat) (cols : List (List Int)) (s : Sx.St) : List Nat := (List.range cols.length).filter fun j => decide (Sx.wth n s (colF cols) j = 0)
theorem frL_mem {n : Nat} {cols : List (List Int)} {s : Sx.St} : Sx.Free n cols.length (colF cols) (frL n cols s) s := fun j => by
  unfold frL
  rw [List.mem_filter, List.mem_range, decide_eq_true_iff]
abbrev LowS (n : Nat) (cols : List (List Int)) (goal : List Int) (fr : List Nat) (s : Sx.St) : Prop := Sx.Low n cols.length (Sx.first n (Sx.fn goal)) (Sx.fn goal) (colF cols) (Sx.dg fun k => Sx.sgn (Sx.fn goal k)) fr s
noncomputable abbrev muS (n : Nat) (cols : List (List Int)) (goal c : List Int) (M : Sx.Mem) : Nat := Sx.muW (Sx.first n (Sx.fn goal)) n cols.length (Sx.fn goal) (colF cols) (Sx.dg fun k => Sx.sgn (Sx.fn goal k)) (Sx.cw (Sx.fn c)) M
noncomputable def lsnS (n : Nat) (cols : List (List Int)) (goal c : List Int) (s : Sx.St) : Sx.St × Option Nat := Sx.lsn n (colF cols) (Sx.fn c) (frL n cols s) (muS n cols goal c s.M + 1) s
/-- columns, costs -/
structure CC (n : Nat) (cols : List (List Int)) (goal c : List Int) : Prop where
  cg : CG n cols goal
  clen : c.length = cols.length
  csm : Small c
def gn (n : Nat) (cols : List (List Int)) (c : List Int) (s : Sx.St) (j : Nat) : Int := Sx.gain n (Sx.cw (Sx.fn c)) s (colF cols) j
def w_lessen (Cb : Addr) : OW := fun w ds K => ∃ n cols goal s x p, ∃ c : List Int, CC n cols goal c ∧ LowS n cols goal (frL n cols s) s ∧ w = bas Cb (stB n s) ∧ ds = [.lst (cols.map spD), x] ∧ x.seq? = some (p, c.map .int) ∧
  ((lsnS n cols goal c s).2 = none → K .non (bas Cb (stB n (lsnS n cols goal c s).1))) ∧
  ∀ j, (lsnS n cols goal c s).2 = some j → K (rowD (Sx.red (mk cols.length (Sx.cntE n (lsnS n cols goal c s).1 (colF cols) j)))) (recO Cb (stB n (lsnS n cols goal c s).1).flds)
def r_lessen (C : Addr) : DS := (dSeq (dAsg (dMethV C "stand_in_prices" 1 v_Basis_stand_in_prices 0 dNil) (dgN 3)) (dSeq (dAsg (dOfN (dLcN (diEnumS (dCons (dCallP 2 w_prices_of (dCons (dVar 3) (dCons (dVar 1) dNil))) dNil)) (dgTup 2 (dgCons (dgN 11) (dgCons (dgN 12) dgNil))) [11, 12] (dTest (dOp dEqD (dVar 12) (dC (.int 0)))) (dVar 11) [11, 12])) (dgN 4)) (dSeq (dWhile (dTest (dOp (rIB fun i j => decide (j < i)) (dCB dLen (dCons (dVar 4) dNil)) (dC (.int 0)))) (dSeq (dAsg (dCallV C 2 v_cost_prices 0 (dCons (dVar 2) dNil)) (dgN 5)) (dSeq (dAsg (dOfN (dLcN (diSeq (dVar 4)) (dgN 11) [11] dYes (dOp (rII fun i j => i - j) (dCallP 2 w_price_of (dCons (dVar 5) (dCons (dOp dIx (dVar 1) (dVar 11)) dNil))) (dOp dbMul (dFldO C 0 "scale") (dOp dIx (dVar 2) (dVar 11)))) [11])) (dgN 6)) (dSeq (dAsg (dCB dMax (dCons (dVar 6) dNil)) (dgN 7)) (dSeq (dIfS (dTest (dOp (rIB fun i j => decide (i ≤ j)) (dVar 7) (dC (.int 0)))) (dRet (dC .non)) dNext) (dSeq (dAsg (dOp dIx (dVar 4) (dIndex 6 7)) (dgN 8)) (dSeq (dAsg (dMethV C "lifted" 2 v_Basis_lifted 0 (dCons (dOp dIx (dVar 1) (dVar 8)) dNil)) (dgN 9)) (dSeq (dAsg (dCallV C 2 v_leaving 0 (dCons (dVar 9) dNil)) (dgN 10)) (dSeq (dIfS (dTest (dOp dIsN (dVar 10) (dC .non))) (dFrzB C 0 (dRet (dCallO 4 (w_endless_counts C) 0 (dCons (dCB dLen (dCons (dVar 1) dNil)) (dCons (dVar 8) (dCons (dVar 9) dNil)))))) dNext) (dDrop (dMethO C "pivot" 4 (w_Basis_pivot C) 0 (dCons (dVar 10) (dCons (dVar 9) (dCons (dVar 8) dNil)))))))))))))) (dRet (dC .non)))))
theorem pw_filter {n : Nat} {p : Nat → Bool} : ((List.range n).filter p).Pairwise (· < ·) := List.Pairwise.filter _ List.pairwise_lt_range
theorem frL_pos {n : Nat} {cols : List (List Int)} {s : Sx.St} {k k' i j : Nat} (h : (frL n cols s)[k]? = some j) (h' : (frL n cols s)[k']? = some i) (l : i < j) : k' < k := by
  have pw : (frL n cols s).Pairwise (· < ·) := pw_filter
  have e1 := (List.getElem?_eq_some_iff.mp h)
  have e2 := (List.getElem?_eq_some_iff.mp h')
  obtain ⟨h1, e1⟩ := e1
  obtain ⟨h2, e2⟩ := e2
  refine Classical.byContradiction fun z => ?_
  by_cases q : k = k'
  · subst q
    rw [e1] at e2; omega
  · have := (List.pairwise_iff_getElem.mp pw) k k' h1 h2 (by omega)
    rw [e1, e2] at this; omega
theorem wl_dot {n : Nat} {cols : List (List Int)} {c : List Int} {s : Sx.St} {j : Nat} (cl : (cols.getD j []).length = n) :
    Sx.dot (cols.getD j []).length (Sx.fn (mk n fun i => Sx.wsum n (Sx.cw (Sx.fn c)) s (i + 1))) (Sx.fn (cols.getD j [])) = Sx.wlift n (Sx.cw (Sx.fn c)) s (colF cols j) := by
  rw [cl, ← Sx.wsum_dot]
  exact Sx.dot_congr (fun i hi => mk_at hi) fun _ _ => rfl
theorem es_maxL {env : Lf.Env} {a : DE} {ns : List Int} (h : Ev a env (.lst (ns.map .int))) (l : 0 < ns.length) : Es (dCB dMax (dCons a dNil)) env fun x => ∃ b, x = .int b ∧ b ∈ ns ∧ ∀ y ∈ ns, y ≤ b := fun K k => ea_cons h ea_nil _ fun _ e => by
  subst e
  exact ⟨ns, rfl, l, fun m hm hy => k _ ⟨m, rfl, hm, hy⟩⟩
theorem body_lessen (Cb : Addr) : ∀ (w : Ow) (as : List D) (C : D → Ow → Prop), as.length + 1 = 3 → w_lessen Cb w as C →
    r_lessen Cb (some (.o w) :: env0 (["basis", "columns", "costs", "tolls", "free", "prices", "gains", "best", "entering", "lift", "out", "k", "toll"].length - 3) as) { nx := fun env' => ∃ w', env'[0]? = some (some (.o w')) ∧ C .non w', rt := fun d env' => ∃ w', env'[0]? = some (some (.o w')) ∧ C d w' } := by
  rintro w as C _ ⟨n, cols, goal, s0, x, p, c, cc, W0, rfl, rfl, hx, hn, hs⟩
  have cg := cc.cg
  have n60 := cg.ok.n60
  have few := cg.ok.few
  have clen := cc.clen
  have lfr : (frL n cols s0).length ≤ cols.length := by
    have := List.length_filter_le (fun j => decide (Sx.wth n s0 (colF cols) j = 0)) (List.range cols.length)
    rw [List.length_range] at this; exact this
  refine st_seq (st_asg1 (d := lstD (mk n (s0.price n))) (es_methV (w := bas Cb (stB n s0)) (by rfl) asRec_bas rfl ea_nil rfl fun K k => ⟨n, s0, rfl, n60, rfl, k _ rfl⟩) (by rfl) ?_)
  dsimp only
  refine st_seq (st_asg1 (d := .lst ((frL n cols s0).map fun (j : Nat) => D.int (j : Int))) ?_ (by rfl) ?_)
  · refine ev_of ?_
    have pl : ∀ e0 : Lf.Env, e0[1]? = some (some (.d (.lst (cols.map spD)))) → e0[3]? = some (some (.d (lstD (mk n (s0.price n))))) → Ev (dCallP 2 w_prices_of (dCons (dVar 3) (dCons (dVar 1) dNil))) e0 (lstD (mk cols.length (Sx.wth n s0 (colF cols)))) := fun e0 h1 h3 =>
      ev_call (ea_cons (ev_var h3) (ea_cons (ev_var h1) ea_nil)) rfl fun C k => ⟨mk n (s0.price n), cols, rfl, by omega, by rw [mk_len]; omega, fun c hc => ⟨by rw [mk_len]; exact cg.ok.len c hc, cg.csm c hc⟩, by rw [prices_eq cg]; exact k⟩
    have ec := ea_lc (env := [some (.o (bas Cb (stB n s0))), some (.d (.lst (cols.map spD))), some (.d x), some (.d (lstD (mk n (s0.price n)))), none, none, none, none, none, none, none, none, none]) (di := diEnumS (dCons (dCallP 2 w_prices_of (dCons (dVar 3) (dCons (dVar 1) dNil))) dNil)) (dg := dgTup 2 (dgCons (dgN 11) (dgCons (dgN 12) dgNil))) (js := [11, 12]) (vs := [11, 12])
      (dt := dTest (dOp dEqD (dVar 12) (dC (.int 0)))) (de := dVar 11) (xs := enumD ((mk cols.length (Sx.wth n s0 (colF cols))).map .int)) (fun z => match z with | .tup [.int j, _] => if Sx.wth n s0 (colF cols) j.toNat = 0 then [D.int j] else [] | _ => []) (fun C k => ?_) (by rw [enumD_len, List.length_map, mk_len]; omega) (by simp) (by rfl) fun z hz => ?_
    · have e : (enumD ((mk cols.length (Sx.wth n s0 (colF cols))).map D.int)).flatMap (fun z => match z with | .tup [.int j, _] => if Sx.wth n s0 (colF cols) j.toNat = 0 then [D.int j] else [] | _ => []) = (frL n cols s0).map fun (j : Nat) => D.int (j : Int) := by
        have key : ∀ (l : List D) (k : Nat), ((l.mapIdx fun i x => D.tup [.int ((k + i : Nat) : Int), x]).flatMap fun z => match z with | .tup [.int j, _] => if Sx.wth n s0 (colF cols) j.toNat = 0 then [D.int j] else [] | _ => []) = (((List.range l.length).map (k + ·)).filter fun j => decide (Sx.wth n s0 (colF cols) j = 0)).map fun (j : Nat) => D.int (j : Int) := by
          intro l
          induction l with
          | nil => intro k; rfl
          | cons a l ih =>
            intro k
            have e1 : (fun i (x : D) => D.tup [.int ((k + (i + 1) : Nat) : Int), x]) = fun i x => D.tup [.int ((k + 1 + i : Nat) : Int), x] := by
              funext i x
              have : k + (i + 1) = k + 1 + i := by omega
              rw [this]
            rw [List.mapIdx_cons, List.flatMap_cons, e1, ih (k + 1), List.length_cons, List.range_succ_eq_map, List.map_cons, List.map_map, List.filter_cons]
            have e2 : ((fun x => k + x) ∘ Nat.succ) = fun x => k + 1 + x := by
              funext x
              show k + (x + 1) = k + 1 + x
              omega
            rw [e2]
            have e3 : (((k + 0 : Nat) : Int)).toNat = k := by omega
            have e4 : ((k + 0 : Nat) : Int) = (k : Int) := by omega
            show (if Sx.wth n s0 (colF cols) (((k + 0 : Nat) : Int)).toNat = 0 then [D.int ((k + 0 : Nat) : Int)] else []) ++ _ = _
            rw [e3, e4]
            by_cases q : Sx.wth n s0 (colF cols) k = 0
            · rw [if_pos q, if_pos (by simpa using q)]; rfl
            · rw [if_neg q, if_neg (by simpa using q)]; rfl
        have := key ((mk cols.length (Sx.wth n s0 (colF cols))).map D.int) 0
        rw [List.length_map, mk_len] at this
        have e5 : (List.range cols.length).map (0 + ·) = List.range cols.length := by
          have : (fun x => 0 + x) = (id : Nat → Nat) := funext fun x => Nat.zero_add x
          rw [this, List.map_id]
        rw [e5] at this
        have e6 : enumD ((mk cols.length (Sx.wth n s0 (colF cols))).map D.int) = ((mk cols.length (Sx.wth n s0 (colF cols))).map D.int).mapIdx fun i x => D.tup [.int ((0 + i : Nat) : Int), x] := by
          unfold enumD
          congr 1
          funext i x
          rw [Nat.zero_add]
        rw [e6]; exact this
      rw [e] at ec
      exact ec
    · exact pl _ (by rfl) (by rfl) _ fun _ e => by
        subst e
        exact ⟨_, false, _, rfl, rfl, k _ rfl⟩
    · obtain ⟨i, hi⟩ := List.mem_iff_getElem?.mp hz
      have hl : i < cols.length := by
        have := (List.getElem?_eq_some_iff.mp hi).1
        rw [enumD_len, List.length_map, mk_len] at this; exact this
      have hz : z = .tup [.int (i : Nat), .int (Sx.wth n s0 (colF cols) i)] := by
        have := enumD_at (xs := (mk cols.length (Sx.wth n s0 (colF cols))).map D.int) (i := i) (x := .int (Sx.wth n s0 (colF cols) i)) (by rw [mk_int, List.getElem?_map, List.getElem?_range hl]; rfl)
        rw [this] at hi; exact (Option.some.inj hi).symm
      subst hz
      refine ⟨_, tg_two (by rfl) (by rfl), ?_⟩
      have ht := fun b (hb : decide (Sx.wth n s0 (colF cols) i = 0) = b) => et_test (p := b) (env := [some (.o (bas Cb (stB n s0))), some (.d (.lst (cols.map spD))), some (.d x), some (.d (lstD (mk n (s0.price n)))), none, none, none, none, none, none, none, some (.d (.int (i : Nat))), some (.d (.int (Sx.wth n s0 (colF cols) i)))]) (ev_op (ev_var (i := 12) (d := .int (Sx.wth n s0 (colF cols) i)) (by rfl)) (ev_c (d := .int 0)) fun C k => rv_eq flat_int.shp flat_int.shp (by rw [dEq_int]; exact hb) k)
      have ei : ((i : Nat) : Int).toNat = i := by omega
      by_cases q : Sx.wth n s0 (colF cols) i = 0
      · exact .inl ⟨.int (i : Nat), by show (if Sx.wth n s0 (colF cols) ((i : Nat) : Int).toNat = 0 then [D.int ((i : Nat) : Int)] else []) = _; rw [ei, if_pos q], ht true (decide_eq_true q), ev_var (by rfl)⟩
      · exact .inr ⟨by show (if Sx.wth n s0 (colF cols) ((i : Nat) : Int).toNat = 0 then [D.int ((i : Nat) : Int)] else []) = _; rw [ei, if_neg q], ht false (decide_eq_false q)⟩
  dsimp only
  refine st_seq (st_while (m0 := muS n cols goal c s0.M) (fun m e => ∃ (s : Sx.St) (f : Nat) (a5 a6 a7 a8 a9 a10 : Option D), m = muS n cols goal c s.M ∧ m < f ∧ lsnS n cols goal c s0 = Sx.lsn n (colF cols) (Sx.fn c) (frL n cols s0) f s ∧ LowS n cols goal (frL n cols s0) s ∧
    e = [some (.o (bas Cb (stB n s))), some (.d (.lst (cols.map spD))), some (.d x), some (.d (lstD (mk n (s0.price n)))), some (.d (.lst ((frL n cols s0).map fun (j : Nat) => D.int (j : Int)))), a5.map .d, a6.map .d, a7.map .d, a8.map .d, a9.map .d, a10.map .d, none, none])
    ⟨s0, _, none, none, none, none, none, none, rfl, Nat.lt_succ_self _, rfl, W0, by rfl⟩ ?_)
  rintro m e ⟨s, f, a5, a6, a7, a8, a9, a10, hm, hf, he, W, rfl⟩
  have G := W.G
  have mb : Memb n cols.length s := GoodS.memb G
  obtain ⟨f, rfl⟩ : ∃ f', f = f' + 1 := ⟨f - 1, by omega⟩
  refine ⟨decide (0 < ((frL n cols s0).length : Int)), et_test (ev_op (ev_cb (ea_cons (ev_var (d := .lst ((frL n cols s0).map fun (j : Nat) => D.int (j : Int))) (by rfl)) ea_nil) fun C k => cv_len rfl (by rw [List.length_map]; exact k)) ev_c fun C k => rv_ib rfl k), fun hl => ?_, fun hl => ?_⟩
  · have pos : 0 < (frL n cols s0).length := by have := of_decide_eq_true hl; omega
    refine st_seq (st_asg1 (d := lstD (mk n fun i => Sx.wsum n (Sx.cw (Sx.fn c)) s (i + 1))) (es_callV (w := bas Cb (stB n s)) (by rfl) asRec_bas (ea_cons (ev_var (by rfl)) ea_nil) rfl fun K k => ⟨n, s, _, x, p, c, rfl, n60, mb, rfl, hx, clen, cc.csm, k _ rfl⟩) (by cases a5 <;> rfl) ?_)
    dsimp only
    have gl : (frL n cols s0).map (fun j => D.int (gn n cols c s j)) = ((frL n cols s0).map (gn n cols c s)).map D.int := by rw [List.map_map]; rfl
    refine st_seq (st_asg1 (d := .lst (((frL n cols s0).map (gn n cols c s)).map .int)) ?_ (by cases a6 <;> rfl) ?_)
    · rw [← gl]
      have hmap : ((frL n cols s0).map fun (j : Nat) => D.int (j : Int)).map (fun z => match z with | .int j => D.int (gn n cols c s j.toNat) | _ => z) = (frL n cols s0).map fun j => D.int (gn n cols c s j) := by
        rw [List.map_map]; rfl
      rw [← hmap]
      refine ev_map _ (ei_seq (ev_var (by rfl)) rfl) (by rw [List.length_map]; omega) (by simp) (by rfl) fun z hz => ?_
      obtain ⟨j, hj, rfl⟩ := List.mem_map.mp hz
      have hjm := ((frL_mem (s := s0) j).mp hj).1
      have cl := colF_len cg.ok hjm
      refine ⟨_, tg_n (by rfl), ?_⟩
      show Ev _ _ (D.int (gn n cols c s j))
      have cat : (cols.map spD)[j]? = some (spD (cols.getD j [])) := by rw [cols_range, List.getElem?_map, List.getElem?_range hjm]; rfl
      have cost : (c.map D.int)[j]? = some (.int (Sx.fn c j)) := by rw [List.getElem?_map, Sx.fn_at (by omega)]; rfl
      have smj := cc.csm _ (Sx.fn_mem (r := c) (i := j) (by omega))
      refine ev_op (x := .int (Sx.wlift n (Sx.cw (Sx.fn c)) s (colF cols j))) (y := .int (s.d * Sx.fn c j)) (ev_call (ea_cons (ev_var (by rfl)) (ea_cons (ev_op (ev_var (d := .lst (cols.map spD)) (by rfl)) (ev_var (d := .int (j : Nat)) (by rfl)) fun C k => rv_ixL (atI_nat cat) k) ea_nil)) rfl fun C k => ⟨mk n fun i => Sx.wsum n (Sx.cw (Sx.fn c)) s (i + 1), cols.getD j [], rfl, by rw [mk_len, cl], by omega, cols_small cg hjm, by rw [wl_dot cl]; exact k⟩)
        (ev_op (x := .int s.d) (y := .int (Sx.fn c j)) (fun Q q => ⟨stB n s, by rfl, rfl, q _ rfl⟩) (ev_op (ev_var (d := x) (by rfl)) (ev_var (d := .int (j : Nat)) (by rfl)) fun C k => rv_ix hx cost k) fun C k => rv_mul (.inl (.inr ⟨by omega, by omega⟩)) rfl k) fun C k => rv_ii rfl k
    dsimp only
    have at_ : ∀ k j, (frL n cols s0)[k]? = some j → ((frL n cols s0).map (gn n cols c s))[k]? = some (gn n cols c s j) := fun k j h => by rw [List.getElem?_map, h]; rfl
    refine st_seq (st_asg (es_maxL (ns := (frL n cols s0).map (gn n cols c s)) (ev_var (by rfl)) (by rw [List.length_map]; exact pos)) (by cases a7 <;> rfl) ?_)
    rintro z ⟨best, rfl, hin, mx⟩
    dsimp only
    refine st_seq (st_if1 (p := decide (best ≤ 0)) (et_test (ev_op (ev_var (by rfl)) ev_c fun C k => rv_ib rfl k)) (fun hq => ?_) fun hq => ?_)
    · have le : best ≤ 0 := of_decide_eq_true hq
      have nn : Sx.enL n (colF cols) (Sx.fn c) (frL n cols s0) s = none := Sx.enL_none fun j hj => by
        have := mx _ (List.mem_map_of_mem (f := gn n cols c s) hj)
        have e : Sx.gain n (Sx.cw (Sx.fn c)) s (colF cols) j = gn n cols c s j := rfl
        omega
      rw [Sx.lsn_none nn] at he
      refine st_ret1 ev_c ⟨bas Cb (stB n s), by rfl, ?_⟩
      have := hn (by rw [he])
      rw [he] at this; exact this
    · have gt : 0 < best := by have := of_decide_eq_false hq; omega
      simp only [dNext]
      obtain ⟨k0, hk0⟩ := List.mem_iff_getElem?.mp hin
      obtain ⟨k, kle, pk, before⟩ := least (P := fun k => ((frL n cols s0).map (gn n cols c s))[k]? = some best) (k := k0) hk0
      have kl : k < (frL n cols s0).length := by have := (List.getElem?_eq_some_iff.mp pk).1; rwa [List.length_map] at this
      obtain ⟨j, hj⟩ : ∃ j, (frL n cols s0)[k]? = some j := ⟨_, List.getElem?_eq_getElem kl⟩
      have bj : gn n cols c s j = best := by
        have := at_ k j hj
        rw [this] at pk; exact Option.some.inj pk
      have jin := List.mem_of_getElem? hj
      have jm := ((frL_mem (s := s0) j).mp jin).1
      have isin : Sx.IsIn n (colF cols) (Sx.fn c) (frL n cols s0) s j := ⟨jin, by show 0 < gn n cols c s j; omega, fun i hi => by
          have := mx _ (List.mem_map_of_mem (f := gn n cols c s) hi)
          show gn n cols c s i ≤ gn n cols c s j
          omega, fun i hi l => by
          obtain ⟨k', hk'⟩ := List.mem_iff_getElem?.mp hi
          have lt := frL_pos hj hk' l
          have h1 := mx _ (List.mem_map_of_mem (f := gn n cols c s) hi)
          have h2 : gn n cols c s i ≠ best := fun q => before k' lt (by rw [at_ k' i hk', q])
          show gn n cols c s i < gn n cols c s j
          omega⟩
      have en := Sx.enL_some isin
      have cl := colF_len cg.ok jm
      have cat : (cols.map spD)[j]? = some (spD (cols.getD j [])) := by rw [cols_range, List.getElem?_map, List.getElem?_range jm]; rfl
      have fat : ((frL n cols s0).map fun (j : Nat) => D.int (j : Int))[k]? = some (.int (j : Nat)) := by rw [List.getElem?_map, hj]; rfl
      refine st_seq (st_asg1 (d := .int (j : Nat)) (ev_op (ev_var (d := .lst ((frL n cols s0).map fun (j : Nat) => D.int (j : Int))) (by rfl)) (ev_index (ns := (frL n cols s0).map (gn n cols c s)) (b := best) (by rfl) (by rfl) pk fun k' z hk hz e => before k' hk (by rw [hz, e])) fun C q => rv_ixL (atI_nat fat) q) (by cases a8 <;> rfl) ?_)
      dsimp only
      refine st_seq (st_asg1 (d := lstD (mk n (s.lift n (colF cols j)))) (es_methV (w := bas Cb (stB n s)) (by rfl) asRec_bas rfl (ea_cons (ev_op (ev_var (d := .lst (cols.map spD)) (by rfl)) (ev_var (d := .int (j : Nat)) (by rfl)) fun C k => rv_ixL (atI_nat cat) k) ea_nil) rfl fun K k => ⟨n, s, cols.getD j [], rfl, n60, rfl, cl, cols_small cg jm, k _ rfl⟩) (by cases a9 <;> rfl) ?_)
      dsimp only
      refine st_seq (st_asg1 (d := memD (Sx.pk n s (s.lift n (colF cols j)) n)) (es_callV (w := bas Cb (stB n s)) (by rfl) asRec_bas (ea_cons (ev_var (by rfl)) ea_nil) rfl fun K k => ⟨n, s, s.lift n (colF cols j), rfl, n60, GoodS.bnd cg G, GoodS.lift cg G jm, rfl, k _ rfl⟩) (by cases a10 <;> rfl) ?_)
      dsimp only
      cases hp : Sx.pk n s (s.lift n (colF cols j)) n with
      | none =>
        rw [Sx.lsn_end en hp] at he
        refine st_seq (st_if1 (p := true) (et_test (ev_op (ev_var (d := .non) (by rfl)) ev_c fun C k => rv_isN (x := .non) (b := true) rfl k)) (fun _ => ?_) fun e => nomatch e)
        refine ⟨stB n s, by rfl, ?_⟩
        have out : ∀ k, k < n → s.M k ≠ some j := fun k hk h => by
          have := Sx.Good.gain_member G (Sx.cw (Sx.fn c)) hk h
          have e : Sx.gain n (Sx.cw (Sx.fn c)) s (colF cols) j = gn n cols c s j := rfl
          omega
        have hsj := hs j (by rw [he])
        rw [he] at hsj
        have few2 : (cols.map spD).length = cols.length := List.length_map ..
        refine st_ret (S := fun d => d = rowD (Sx.red (mk cols.length (Sx.cntE n s (colF cols) j)))) (es_callO (w := recO Cb (stB n s).flds) (by rfl) (ea_cons (ev_cb (ea_cons (ev_var (d := .lst (cols.map spD)) (by rfl)) ea_nil) fun C k => cv_len (xs := cols.map spD) rfl k) (ea_cons (ev_var (d := .int (j : Nat)) (by rfl)) (ea_cons (ev_var (d := lstD (mk n (s.lift n (colF cols j)))) (by rfl)) ea_nil))) rfl fun C q => ⟨n, s, cols.length, j, s.lift n (colF cols j), rfl, n60, few, jm, mb, out, G.U.pos, (GoodS.bnd cg G).d, by rw [few2], q _ rfl⟩) fun d hd => ?_
        subst hd
        exact ⟨_, by rfl, hsj⟩
      | some r =>
        obtain ⟨hr, lead, least_⟩ := Sx.pk_some hp
        refine st_seq (st_if1 (p := false) (et_test (ev_op (ev_var (d := .int (r : Nat)) (by rfl)) ev_c fun C k => rv_isN (x := .int (r : Nat)) (b := false) rfl k)) (fun e => nomatch e) fun _ => ?_)
        simp only [dNext]
        refine st_methO (st := stB n s) (by rfl) rfl (ea_cons (ev_var (d := .int (r : Nat)) (by rfl)) (ea_cons (ev_var (d := lstD (mk n (s.lift n (colF cols j)))) (by rfl)) (ea_cons (ev_var (d := .int (j : Nat)) (by rfl)) ea_nil))) rfl ?_
        refine ⟨n, s, r, colF cols j, j, rfl, n60, hr, GoodS.bnd cg G, GoodS.lift cg G jm, G.U.pos, lead, rfl, keepE_set, ?_⟩
        have W2 := W.next hr jin lead least_
        have lt : muS n cols goal c (s.next n (colF cols j) r j).M < muS n cols goal c s.M := G.lessW (Sx.cw (Sx.fn c)) hr jm lead least_ isin.2.1
        exact ⟨_, by rw [hm]; exact lt, s.next n (colF cols j) r j, f, some _, some _, some (.int best), some (.int (j : Nat)), some _, some (.int (r : Nat)), rfl, by omega, by rw [he, Sx.lsn_step en hp], W2, by rfl⟩
  · have z : frL n cols s0 = [] := by
      have := of_decide_eq_false hl
      exact List.length_eq_zero_iff.mp (by omega)
    have nn : Sx.enL n (colF cols) (Sx.fn c) (frL n cols s0) s = none := Sx.enL_none fun j hj => by rw [z] at hj; simp at hj
    rw [Sx.lsn_none nn] at he
    refine st_ret1 ev_c ⟨bas Cb (stB n s), by rfl, ?_⟩
    have := hn (by rw [he])
    rw [he] at this; exact this
section
variable {P : Program} {w : World} {K : PySem.W.Frag} {mg : Str → Option Value} {base : Heap}
theorem sc_lessen : FnScope ["basis", "columns", "costs", "tolls", "free", "prices", "gains", "best", "entering", "lift", "out", "k", "toll"] ["basis", "columns", "costs"] (defScope (top 28)) := ⟨rfl, rfl, rfl, by decide +kernel, rfl, by decide +kernel, by decide +kernel⟩
theorem ok_lessen (T : Top P w K mg) : Fn P w K mg base 4 "lessen" ["basis", "columns", "costs"] (OSp 3 (w_lessen (He.ga K "Basis"))) := by
  obtain ⟨fd, F⟩ := T.fn 17 (x := "lessen") (st := (top 28)) rfl
  have sc := sc_lessen
  have tm : ∀ x, x ∈ frees → mg x = none := fun x hx => T.free x (mem_free hx)
  refine ⟨⟨fd, F.ok sc (fun vs H Q E h => h.len) (fun cdv A outer s H vs Q E hr h => ?d), F.bindsN fun _ _ _ _ _ _ us hl => match us, hl with | [_, _, _], _ => rfl⟩, T.glo "lessen" (mem_glo (by decide +kernel)), F.kp⟩
  exact ⟨_, PSs.nox (pss_cons (ps_set (i := 3) sc.nd rfl (by first | exact Or.inl rfl | exact Or.inr rfl) (pe_methV (pe_m0 (clsB T) (methB T "stand_in_prices" (by decide +kernel)) (ok_Basis_stand_in_prices T) (hr.mono (by decide)) (pv 0)))) (pss_cons (ps_setLc (i := 4) (own := [("k", 11), ("toll", 12)]) (g := (gTup K 2 (gCons (gName 11) (gCons (gName 12) gNil)))) rfl sc.nd rfl rfl (sw_true rfl rfl rfl (by decide +kernel)) (pi_enumS rfl (tm "enumerate" (by decide +kernel)) (pa_cons (pe_f (ok_prices_of T) (hr.mono (by decide)) rfl (pa_cons (pv 3) (pa_cons (pv 1) pa_nil))) pa_nil)) (blkOk_by (N := ["basis", "columns", "costs", "tolls", "free", "prices", "gains", "best", "entering", "lift", "out", "k", "toll"]) (sc := defScope (top 28)) (by decide +kernel)) (fun _ _ _ _ _ => (pg_tup (n := 2) rfl (pgs_cons (pg_name (i := 11) sc.nd rfl (by first | exact Or.inl rfl | exact Or.inr rfl)) (pgs_cons (pg_name (i := 12) sc.nd rfl (by first | exact Or.inl rfl | exact Or.inr rfl)) pgs_nil)))) (fun _ _ _ _ _ => (pts_one (pt_cmpR (show OpR _ _ (rEqD K) from op_eqD hr.units) (pv 12) pe_int (nomark _)))) (fun _ _ _ _ _ => (pv 11))) (pss_cons (ps_while PassesOwn.never (pt_cmpR op_gt (pe_callB (show CallR _ _ (rLenQ K) from cl_len) (by rfl) (tm "len" (by decide +kernel)) (by decide +kernel) (pa_cons (pv 4) pa_nil)) pe_int (nomark _)) (pss_cons (ps_set (i := 5) sc.nd rfl (by first | exact Or.inl rfl | exact Or.inr rfl) (pe_callV (pe_f (ok_cost_prices T) (hr.mono (by decide)) (by rfl) (pa_cons (pv 0) (pa_cons (pv 2) pa_nil))))) (pss_cons (ps_setLc (i := 6) (own := [("k", 11)]) (g := (gName 11)) rfl sc.nd rfl rfl (sw_true rfl rfl rfl (by decide +kernel)) (pi_seq (pv 4)) (blkOk_by (N := ["basis", "columns", "costs", "tolls", "free", "prices", "gains", "best", "entering", "lift", "out", "k", "toll"]) (sc := defScope (top 28)) (by decide +kernel)) (fun _ _ _ _ _ => (pg_name (i := 11) sc.nd rfl (by first | exact Or.inl rfl | exact Or.inr rfl))) (fun _ _ _ _ _ => pts_nil) (fun _ _ _ _ _ => (pe_op op_sub (pe_f (ok_price_of T) (hr.mono (by decide)) rfl (pa_cons (pv 5) (pa_cons (pe_ix (show IxR _ (fun x y H Q => rIxL K x y H Q ∨ rIxT K x y H Q) from ix_any) (pv 1) (pv 11) (fun _ _ => rfl)) pa_nil))) (pe_op (show OpR _ _ (rbMul K) from ob_mul) (pe_fldO (pe_fldC (clsB T) (noatB T "scale" (by decide +kernel)) (pv 0))) (pe_ix (show IxR _ (fun x y H Q => rIxL K x y H Q ∨ rIxT K x y H Q) from ix_any) (pv 2) (pv 11) (fun _ _ => rfl)))))) (pss_cons (ps_set (i := 7) sc.nd rfl (by first | exact Or.inl rfl | exact Or.inr rfl) (pe_callB (show CallR _ _ (rMax K) from cr_max rfl) (by rfl) (tm "max" (by decide +kernel)) (by decide +kernel) (pa_cons (pv 6) pa_nil))) (pss_cons (ps_if (pt_cmpR op_le (pv 7) pe_int (nomark _)) (pss_one (ps_ret pe_non)) pss_nil) (pss_cons (ps_set (i := 8) sc.nd rfl (by first | exact Or.inl rfl | exact Or.inr rfl) (pe_ix (show IxR _ (fun x y H Q => rIxL K x y H Q ∨ rIxT K x y H Q) from ix_any) (pv 4) (pe_index (K := K) (K2 := K) (pe_bm PySem.F.plainAttrs_list PySem.F.slot_list_index PySem.F.type_list_index mt_index (pv 6) (pa_cons (pv 7) pa_nil))) (fun _ _ => rfl))) (pss_cons (ps_set (i := 9) sc.nd rfl (by first | exact Or.inl rfl | exact Or.inr rfl) (pe_methV (pe_m (clsB T) (methB T "lifted" (by decide +kernel)) (ok_Basis_lifted T) (hr.mono (by decide)) (pv 0) (pa_cons (pe_ix (show IxR _ (fun x y H Q => rIxL K x y H Q ∨ rIxT K x y H Q) from ix_any) (pv 1) (pv 8) (fun _ _ => rfl)) pa_nil)))) (pss_cons (ps_set (i := 10) sc.nd rfl (by first | exact Or.inl rfl | exact Or.inr rfl) (pe_callV (pe_f (ok_leaving T) (hr.mono (by decide)) (by rfl) (pa_cons (pv 0) (pa_cons (pv 9) pa_nil))))) (pss_cons (ps_if (pt_cmpR op_isN1 (pv 10) pe_non (nomark _)) (pss_frzB (He.ga K "Basis") 0 (pss_one (ps_ret (pe_fO (ok_endless_counts T) hr (by rfl) 0 (pa_cons (pv 0) (pa_cons (pe_callB (show CallR _ _ (rLenQ K) from cl_len) (by rfl) (tm "len" (by decide +kernel)) (by decide +kernel) (pa_cons (pv 1) pa_nil)) (pa_cons (pv 8) (pa_cons (pv 9) pa_nil)))))))) pss_nil) (pss_one (ps_expr (pe_methO (pe_m (clsB T) (methB T "pivot" (by decide +kernel)) (ok_Basis_pivot T) (hr.mono (by decide)) (pv 0) (pa_cons (pv 10) (pa_cons (pv 9) (pa_cons (pv 8) pa_nil)))))))))))))))) (pss_one (ps_ret pe_non))))), os_body h (ds := (r_lessen (He.ga K "Basis"))) inferInstance (body_lessen (He.ga K "Basis"))⟩

end
end K04
set_option Elab.async false
set_option linter.all false
set_option maxRecDepth 100000
set_option maxHeartbeats 4000000
set_option synthInstance.maxHeartbeats 4000000
set_option synthInstance.maxSize 100000
namespace K04
open PySem PySem.Spec PyProof.Rows L2 RZ Lf
/-- as much of the tolls as the first columns take -/
def mostI (n : Nat) (cols : List (List Int)) (c : List Int) (s : Sx.St) : Nat → Int
  | 0 => 0
  | j + 1 => if 0 < - Sx.wth n s (colF cols) j then (if - (- gn n cols c s j / - Sx.wth n s (colF cols) j) > mostI n cols c s j then - (- gn n cols c s j / - Sx.wth n s (colF cols) j) else mostI n cols c s j) else mostI n cols c s j
def prI (n : Nat) (cols : List (List Int)) (c : List Int) (s : Sx.St) : List Int := mk n fun i => Sx.wsum n (Sx.cw (Sx.fn c)) s (i + 1) + mostI n cols c s cols.length * s.price n i
def w_told_prices (Cb : Addr) : OW := fun w ds K => ∃ n cols goal s x p, ∃ c : List Int, CC n cols goal c ∧ GoodS n cols goal s ∧ w = recO Cb (stB n s).flds ∧ ds = [.lst (cols.map spD), x] ∧ x.seq? = some (p, c.map .int) ∧
  K (.tup [.int ((Sx.red (s.d :: prI n cols c s)).headD 0), rowD (Sx.red (s.d :: prI n cols c s)).tail]) (recO Cb (stB n s).flds)
def r_told_prices (C : Addr) : DS := (dSeq (dPar 4 5 (dCons (dMethV C "stand_in_prices" 1 v_Basis_stand_in_prices 0 dNil) (dCons (dCallV C 2 v_cost_prices 0 (dCons (dVar 2) dNil)) dNil))) (dSeq (dAsg (dC (.int 0)) (dgN 3)) (dSeq (dFor (diZipS (dCons (dVar 1) (dCons (dVar 2) dNil))) (dgTup 2 (dgCons (dgN 6) (dgCons (dgN 7) dgNil))) (dSeq (dAsg (dUn (dI1 fun i => -i) (dCallP 2 w_price_of (dCons (dVar 4) (dCons (dVar 6) dNil)))) (dgN 8)) (dIfS (dTest (dOp (rIB fun i j => decide (j < i)) (dVar 8) (dC (.int 0)))) (dSeq (dAsg (dOp (rII fun i j => i - j) (dCallP 2 w_price_of (dCons (dVar 5) (dCons (dVar 6) dNil))) (dOp dbMul (dFld C 0 "scale") (dVar 7))) (dgN 9)) (dAsg (dCB dMax2 (dCons (dVar 3) (dCons (dUn (dI1 fun i => -i) (dOp dbFdiv (dUn (dI1 fun i => -i) (dVar 9)) (dVar 8))) dNil))) (dgN 3))) dNext))) (dRet (dCallP 2 w_scaled_down (dCons (dFld C 0 "scale") (dCons (dOfN (dLcN (diZipS (dCons (dVar 5) (dCons (dVar 4) dNil))) (dgTup 2 (dgCons (dgN 10) (dgCons (dgN 8) dgNil))) [10, 8] dYes (dOp dbAdd (dVar 10) (dOp dbMul (dVar 3) (dVar 8))) [10, 8])) dNil)))))))
theorem most_mono {n : Nat} {cols : List (List Int)} {c : List Int} {s : Sx.St} {j : Nat} : mostI n cols c s j ≤ mostI n cols c s (j + 1) := by
  simp only [mostI]
  split
  · split
    · omega
    · exact Int.le_refl _
  · exact Int.le_refl _
theorem most_nonneg {n : Nat} {cols : List (List Int)} {c : List Int} {s : Sx.St} : ∀ j, 0 ≤ mostI n cols c s j
  | 0 => Int.le_refl _
  | j + 1 => Int.le_trans (most_nonneg j) most_mono
theorem most_ge {n : Nat} {cols : List (List Int)} {c : List Int} {s : Sx.St} {j : Nat} : ∀ {t : Nat}, j < t → Sx.wth n s (colF cols) j < 0 → gn n cols c s j ≤ mostI n cols c s t * - Sx.wth n s (colF cols) j := by
  intro t
  induction t with
  | zero => intro h; omega
  | succ t ih =>
    intro h w
    have tp : 0 < - Sx.wth n s (colF cols) j := by omega
    by_cases e : j = t
    · subst e
      have q : - (- gn n cols c s j / - Sx.wth n s (colF cols) j) ≤ mostI n cols c s (j + 1) := by
        simp only [mostI]
        rw [if_pos tp]
        split <;> omega
      have d := Int.ediv_mul_le (- gn n cols c s j) (b := - Sx.wth n s (colF cols) j) (by omega)
      have l := Int.mul_le_mul_of_nonneg_right q (Int.le_of_lt tp)
      rw [Int.neg_mul] at l
      omega
    · exact Int.le_trans (ih (by omega) w) (Int.mul_le_mul_of_nonneg_right most_mono (Int.le_of_lt tp))
theorem most_lt {n : Nat} {cols : List (List Int)} {c : List Int} {s : Sx.St} {b : Nat} (hb : 0 < b) : ∀ {t : Nat}, (∀ j, j < t → (gn n cols c s j).natAbs < b) → (mostI n cols c s t).natAbs < b := by
  intro t
  induction t with
  | zero => intro _; exact hb
  | succ t ih =>
    intro h
    have i := ih fun j hj => h j (by omega)
    have g := h t (by omega)
    have p := most_nonneg (n := n) (cols := cols) (c := c) (s := s) t
    simp only [mostI]
    split
    · next tp =>
      split
      · next q =>
        have d : - ((gn n cols c s t).natAbs : Int) ≤ - gn n cols c s t / - Sx.wth n s (colF cols) t := by
          refine Int.le_ediv_of_mul_le tp ?_
          have := Int.mul_le_mul_of_nonneg_left (show (1 : Int) ≤ - Sx.wth n s (colF cols) t by omega) (show (0 : Int) ≤ ((gn n cols c s t).natAbs : Int) by omega)
          rw [Int.neg_mul]
          omega
        omega
      · exact i
    · exact i
theorem gn_abs {n : Nat} {cols : List (List Int)} {goal c : List Int} {s : Sx.St} (cc : CC n cols goal c) (G : GoodS n cols goal s) {j : Nat} (hj : j < cols.length) : (gn n cols c s j).natAbs < 2 ^ 8100 := by
  have cg := cc.cg
  have n60 := cg.ok.n60
  have hc : ∀ j, j < cols.length → (Sx.fn c j).natAbs ≤ 2 ^ 64 := fun j hj => by
    have := cc.csm _ (Sx.fn_mem (r := c) (i := j) (by rw [cc.clen]; exact hj))
    omega
  have h1 : (Sx.wlift n (Sx.cw (Sx.fn c)) s (colF cols j)).natAbs ≤ n * (2 ^ 64 * 2 ^ 8000) := Sx.sm_abs fun k hk => by
    rw [Int.natAbs_mul]
    refine Nat.mul_le_mul ?_ (Nat.le_of_lt (GoodS.lift cg G hj k hk))
    cases q : s.M k with
    | none => exact Nat.zero_le _
    | some t => exact hc t (G.inn k hk t q)
  have h2 : (s.d * Sx.fn c j).natAbs ≤ 2 ^ 8000 * 2 ^ 64 := by
    rw [Int.natAbs_mul]
    exact Nat.mul_le_mul (Nat.le_of_lt (GoodS.bnd cg G).d) (hc j hj)
  have h3 : (gn n cols c s j).natAbs ≤ n * (2 ^ 64 * 2 ^ 8000) + 2 ^ 8000 * 2 ^ 64 := by
    show (Sx.wlift n (Sx.cw (Sx.fn c)) s (colF cols j) - s.d * Sx.fn c j).natAbs ≤ _
    omega
  have e1 : (2 : Nat) ^ 64 * 2 ^ 8000 = 2 ^ 8064 := by rw [← Nat.pow_add]
  have e2 : (2 : Nat) ^ 8000 * 2 ^ 64 = 2 ^ 8064 := by rw [← Nat.pow_add]
  have e3 : (64 : Nat) * 2 ^ 8064 = 2 ^ 8070 := by
    rw [show (64 : Nat) = 2 ^ 6 from rfl, ← Nat.pow_add]
  have e4 : (2 : Nat) ^ 8070 < 2 ^ 8100 := Nat.pow_lt_pow_right (by omega) (by omega)
  rw [e1, e2] at h3
  generalize (2 : Nat) ^ 8064 = a at *
  have h4 : n * a ≤ 60 * a := Nat.mul_le_mul_right _ n60
  omega
theorem price_abs {n : Nat} {cols : List (List Int)} {goal : List Int} {s : Sx.St} (cg : CG n cols goal) (G : GoodS n cols goal s) {i : Nat} (hi : i < n) : (s.price n i).natAbs < 2 ^ 8000 := by
  have n60 := cg.ok.n60
  refine Nat.lt_of_le_of_lt (Sx.sm_abs (b := 2 ^ 4200) fun k hk => ?_) ?_
  · split
    · exact num_le cg G hk hi
    · exact Nat.zero_le _
  · refine Nat.lt_of_le_of_lt (Nat.mul_le_mul_right _ n60) ?_
    have e : 60 * 2 ^ 4200 ≤ 2 ^ 6 * 2 ^ 4200 := Nat.mul_le_mul_right _ (by decide)
    refine Nat.lt_of_le_of_lt e ?_
    rw [← Nat.pow_add]
    exact Nat.pow_lt_pow_right (by omega) (by omega)
theorem wth_abs {n : Nat} {cols : List (List Int)} {goal : List Int} {s : Sx.St} (cg : CG n cols goal) (G : GoodS n cols goal s) {j : Nat} (hj : j < cols.length) : (Sx.wth n s (colF cols) j).natAbs < 2 ^ 8100 := by
  have n60 := cg.ok.n60
  have h : (Sx.wth n s (colF cols) j).natAbs ≤ n * (2 ^ 8000 * 2 ^ 64) := Sx.sm_abs fun i hi => by
    rw [Int.natAbs_mul]
    exact Nat.mul_le_mul (Nat.le_of_lt (price_abs cg G hi)) (colF_abs cg j hj i hi)
  have e2 : (2 : Nat) ^ 8000 * 2 ^ 64 = 2 ^ 8064 := by rw [← Nat.pow_add]
  have e3 : (64 : Nat) * 2 ^ 8064 = 2 ^ 8070 := by
    rw [show (64 : Nat) = 2 ^ 6 from rfl, ← Nat.pow_add]
  have e4 : (2 : Nat) ^ 8070 < 2 ^ 8100 := Nat.pow_lt_pow_right (by omega) (by omega)
  have e5 : 0 < (2 : Nat) ^ 8064 := Nat.two_pow_pos _
  rw [e2] at h
  generalize (2 : Nat) ^ 8064 = a at *
  have h4 : n * a ≤ 60 * a := Nat.mul_le_mul_right _ n60
  omega
theorem body_told_prices (Cb : Addr) : ∀ (w : Ow) (as : List D) (C : D → Ow → Prop), as.length + 1 = 3 → w_told_prices Cb w as C →
    r_told_prices Cb (some (.o w) :: env0 (["basis", "columns", "costs", "most", "tolls", "prices", "column", "cost", "toll", "over", "price"].length - 3) as) { nx := fun env' => ∃ w', env'[0]? = some (some (.o w')) ∧ C .non w', rt := fun d env' => ∃ w', env'[0]? = some (some (.o w')) ∧ C d w' } := by
  rintro w as C _ ⟨n, cols, goal, s, x, p, c, cc, G, rfl, rfl, hx, h⟩
  have cg := cc.cg
  have n60 := cg.ok.n60
  have few := cg.ok.few
  have clen := cc.clen
  have bnd := GoodS.bnd cg G
  have mb : Memb n cols.length s := GoodS.memb G
  have cr : c.map D.int = (List.range cols.length).map fun j => D.int (Sx.fn c j) := by
    rw [← clen]
    conv => lhs; rw [Sx.list_fn c]
    rw [List.map_map]; rfl
  refine st_seq (st_par (x := lstD (mk n (s.price n))) (y := lstD (mk n fun i => Sx.wsum n (Sx.cw (Sx.fn c)) s (i + 1))) (ea_cons (es_methV (w := recO Cb (stB n s).flds) (by rfl) asRec_rec rfl ea_nil rfl fun K k => ⟨n, s, rfl, n60, rfl, k _ rfl⟩) (ea_cons (es_callV (w := recO Cb (stB n s).flds) (by rfl) asRec_rec (ea_cons (ev_var (by rfl)) ea_nil) rfl fun K k => ⟨n, s, _, x, p, c, rfl, n60, mb, rfl, hx, clen, cc.csm, k _ rfl⟩) ea_nil)) (by rfl) (by rfl) ?_)
  dsimp only
  refine st_seq (st_asg1 (d := .int 0) ev_c (by rfl) ?_)
  dsimp only
  refine st_seq (st_for (xs := (List.range cols.length).map fun j => .tup [spD (cols.getD j []), .int (Sx.fn c j)]) (fun i e => ∃ t u v o : Option D, i ≤ cols.length ∧ e = [some (.o (recO Cb (stB n s).flds)), some (.d (.lst (cols.map spD))), some (.d x), some (.d (.int (mostI n cols c s i))), some (.d (lstD (mk n (s.price n)))), some (.d (lstD (mk n fun i => Sx.wsum n (Sx.cw (Sx.fn c)) s (i + 1)))), t.map .d, u.map .d, v.map .d, o.map .d, none]) ?_ ⟨none, none, none, none, Nat.zero_le _, by rfl⟩ ?_ ?_)
  · rw [← zip_range]
    exact ei_zip (p := false) (q := p) (ea_cons (ev_var (by rfl)) (ea_cons (ev_var (by rfl)) ea_nil)) (by rw [cols_range]; rfl) (by rw [hx, cr])
  · rintro i x' e hx' ⟨t, u, v, o, _, rfl⟩
    have hlt : i < cols.length := by
      have := (List.getElem?_eq_some_iff.mp hx').1
      simpa using this
    have ex : x' = .tup [spD (cols.getD i []), .int (Sx.fn c i)] := by
      rw [List.getElem?_map, List.getElem?_range hlt] at hx'
      simpa using hx'.symm
    subst ex
    have cl := colF_len cg.ok hlt
    have sc := cc.csm _ (Sx.fn_mem (r := c) (i := i) (by omega))
    refine ⟨_, tg_two (by cases t <;> rfl) (by cases t <;> cases u <;> rfl), ?_⟩
    refine st_seq (st_asg1 (d := .int (- Sx.wth n s (colF cols) i)) (ev_un (x := .int (Sx.wth n s (colF cols) i)) (ev_call (ea_cons (ev_var (by rfl)) (ea_cons (ev_var (by rfl)) ea_nil)) rfl fun C k => ⟨mk n (s.price n), cols.getD i [], rfl, by rw [mk_len, cl], by omega, cols_small cg hlt, by
      have e : Sx.dot (cols.getD i []).length (Sx.fn (mk n (s.price n))) (Sx.fn (cols.getD i [])) = Sx.wth n s (colF cols) i := by
        rw [cl]
        exact Sx.dot_congr (fun i hi => mk_at hi) fun _ _ => rfl
      rw [e]; exact k⟩) fun C k => ⟨_, rfl, k⟩) (by cases v <;> rfl) ?_)
    dsimp only
    refine st_if1 (p := decide (0 < - Sx.wth n s (colF cols) i)) (et_test (ev_op (ev_var (by rfl)) ev_c fun C k => rv_ib rfl k)) (fun hq => ?_) fun hq => ?_
    · have tp := of_decide_eq_true hq
      refine st_seq (st_asg1 (d := .int (gn n cols c s i)) (ev_op (x := .int (Sx.wlift n (Sx.cw (Sx.fn c)) s (colF cols i))) (y := .int (s.d * Sx.fn c i)) (ev_call (ea_cons (ev_var (by rfl)) (ea_cons (ev_var (by rfl)) ea_nil)) rfl fun C k => ⟨mk n fun i => Sx.wsum n (Sx.cw (Sx.fn c)) s (i + 1), cols.getD i [], rfl, by rw [mk_len, cl], by omega, cols_small cg hlt, by rw [wl_dot cl]; exact k⟩)
        (ev_op (ev_fld (by rfl) (fl_scale n s)) (ev_var (by rfl)) fun C k => rv_mul (.inl (.inr ⟨by omega, by omega⟩)) rfl k) fun C k => rv_ii rfl k) (by cases o <;> rfl) ?_)
      dsimp only
      have tw : (- Sx.wth n s (colF cols) i).natAbs < 2 ^ 8100 := by rw [Int.natAbs_neg]; exact wth_abs cg G hlt
      refine st_asg1 (d := .int (mostI n cols c s (i + 1))) (ev_cb (ea_cons (ev_var (d := .int (mostI n cols c s i)) (by rfl)) (ea_cons (ev_un (x := .int (- gn n cols c s i / - Sx.wth n s (colF cols) i)) (ev_op (ev_un (x := .int (gn n cols c s i)) (ev_var (by rfl)) fun C k => ⟨_, rfl, k⟩) (ev_var (d := .int (- Sx.wth n s (colF cols) i)) (by rfl)) fun C k => rv_fdivW (wide_div tp tw (by decide) (by decide)) rfl k) fun C k => ⟨_, rfl, k⟩) ea_nil)) fun C k => ⟨_, _, rfl, by
          simp only [mostI] at k
          rw [if_pos tp] at k
          exact k⟩) (by rfl) ?_
      exact ⟨some (spD (cols.getD i [])), some (.int (Sx.fn c i)), some (.int (- Sx.wth n s (colF cols) i)), some (.int (gn n cols c s i)), hlt, by rfl⟩
    · have tp := of_decide_eq_false hq
      have e : mostI n cols c s (i + 1) = mostI n cols c s i := by
        simp only [mostI]
        rw [if_neg tp]
      refine ⟨some (spD (cols.getD i [])), some (.int (Sx.fn c i)), some (.int (- Sx.wth n s (colF cols) i)), o, hlt, ?_⟩
      rw [e]; rfl
  · rintro e ⟨t, u, v, o, _, rfl⟩
    rw [List.length_map, List.length_range]
    have mw : (mostI n cols c s cols.length).natAbs < 2 ^ 8100 := most_lt (Nat.two_pow_pos _) fun j hj => gn_abs cc G hj
    refine st_ret1 (ev_call (ea_cons (ev_fld (by rfl) (fl_scale n s)) (ea_cons (ev_of (ea_mapR (n := n) (x := fun k => .tup [.int (Sx.wsum n (Sx.cw (Sx.fn c)) s (k + 1)), .int (s.price n k)]) (f := fun k => .int (Sx.wsum n (Sx.cw (Sx.fn c)) s (k + 1) + mostI n cols c s cols.length * s.price n k)) ?_ (by omega) (by simp) (by cases t <;> cases u <;> cases v <;> cases o <;> rfl) fun k hk => ⟨_, tg_two (by rfl) (by rfl), ?_⟩)) ea_nil)) rfl fun C k => ⟨_, s.d, prI n cols c s, rfl, by unfold prI; rw [mk_int]; rfl, by show (mk _ _).length ≤ 900; rw [mk_len]; omega, wide_head (by have := G.U.pos; omega) bnd.d, k⟩) ⟨_, by rfl, h⟩
    · rw [← zip_range]
      exact ei_zip (p := false) (q := false) (ea_cons (ev_var (by rfl)) (ea_cons (ev_var (by rfl)) ea_nil)) (by unfold lstD; rw [mk_int]; rfl) (by unfold lstD; rw [mk_int]; rfl)
    · have pw := price_abs cg G hk
      exact ev_op (ev_var (by cases t <;> cases u <;> cases v <;> cases o <;> rfl)) (ev_op (ev_var (d := .int (mostI n cols c s cols.length)) (by cases t <;> cases u <;> cases v <;> cases o <;> rfl)) (ev_var (d := .int (s.price n k)) (by cases t <;> cases u <;> cases v <;> cases o <;> rfl)) fun C q => rv_mul (.inr (wide_mul mw pw (by decide) (by decide) (by decide))) rfl q) fun C q => rv_add rfl q
section
variable {P : Program} {w : World} {K : PySem.W.Frag} {mg : Str → Option Value} {base : Heap}
theorem sc_told_prices : FnScope ["basis", "columns", "costs", "most", "tolls", "prices", "column", "cost", "toll", "over", "price"] ["basis", "columns", "costs"] (defScope (top 31)) := ⟨rfl, rfl, rfl, by decide +kernel, rfl, by decide +kernel, by decide +kernel⟩
theorem ok_told_prices (T : Top P w K mg) : Fn P w K mg base 4 "told_prices" ["basis", "columns", "costs"] (OSp 3 (w_told_prices (He.ga K "Basis"))) := by
  obtain ⟨fd, F⟩ := T.fn 20 (x := "told_prices") (st := (top 31)) rfl
  have sc := sc_told_prices
  have tm : ∀ x, x ∈ frees → mg x = none := fun x hx => T.free x (mem_free hx)
  refine ⟨⟨fd, F.ok sc (fun vs H Q E h => h.len) (fun cdv A outer s H vs Q E hr h => ?d), F.bindsN fun _ _ _ _ _ _ us hl => match us, hl with | [_, _, _], _ => rfl⟩, T.glo "told_prices" (mem_glo (by decide +kernel)), F.kp⟩
  exact ⟨_, PSs.nox (pss_cons (ps_par (by rfl) sc.nd rfl rfl (by decide) rfl rfl (pa_cons (pe_methV (pe_m0 (clsB T) (methB T "stand_in_prices" (by decide +kernel)) (ok_Basis_stand_in_prices T) (hr.mono (by decide)) (pv 0))) (pa_cons (pe_callV (pe_f (ok_cost_prices T) (hr.mono (by decide)) (by rfl) (pa_cons (pv 0) (pa_cons (pv 2) pa_nil)))) pa_nil)) (by rfl)) (pss_cons (ps_set (i := 3) sc.nd rfl (by first | exact Or.inl rfl | exact Or.inr rfl) pe_int) (pss_cons (ps_for PassesOwn.never rfl (pi_zipS rfl (tm "zip" (by decide +kernel)) (pa_cons (pv 1) (pa_cons (pv 2) pa_nil))) (pg_tup (n := 2) rfl (pgs_cons (pg_name (i := 6) sc.nd rfl (by first | exact Or.inl rfl | exact Or.inr rfl)) (pgs_cons (pg_name (i := 7) sc.nd rfl (by first | exact Or.inl rfl | exact Or.inr rfl)) pgs_nil))) (pss_cons (ps_set (i := 8) sc.nd rfl (by first | exact Or.inl rfl | exact Or.inr rfl) (pe_un un_neg (pe_f (ok_price_of T) (hr.mono (by decide)) rfl (pa_cons (pv 4) (pa_cons (pv 6) pa_nil))))) (pss_one (ps_if (pt_cmpR op_gt (pv 8) pe_int (nomark _)) (pss_cons (ps_set (i := 9) sc.nd rfl (by first | exact Or.inl rfl | exact Or.inr rfl) (pe_op op_sub (pe_f (ok_price_of T) (hr.mono (by decide)) rfl (pa_cons (pv 5) (pa_cons (pv 6) pa_nil))) (pe_op (show OpR _ _ (rbMul K) from ob_mul) (pe_fldC (clsB T) (noatB T "scale" (by decide +kernel)) (pv 0)) (pv 7)))) (pss_one (ps_set (i := 3) sc.nd rfl (by first | exact Or.inl rfl | exact Or.inr rfl) (pe_callB (cl_max2 rfl) (by rfl) (tm "max" (by decide +kernel)) (by decide +kernel) (pa_cons (pv 3) (pa_cons (pe_un un_neg (pe_op ob_fdiv (pe_un un_neg (pv 9)) (pv 8))) pa_nil)))))) pss_nil)))) (pss_one (ps_ret (pe_f (ok_scaled_down T) hr rfl (pa_cons (pe_fldC (clsB T) (noatB T "scale" (by decide +kernel)) (pv 0)) (pa_cons (pe_lc (own := [("price", 10), ("toll", 8)]) (g := (gTup K 2 (gCons (gName 10) (gCons (gName 8) gNil)))) rfl sc.nd (pi_zipS rfl (tm "zip" (by decide +kernel)) (pa_cons (pv 5) (pa_cons (pv 4) pa_nil))) (blkOk_by (N := ["basis", "columns", "costs", "most", "tolls", "prices", "column", "cost", "toll", "over", "price"]) (sc := defScope (top 31)) (by decide +kernel)) (fun _ _ _ _ _ => (pg_tup (n := 2) rfl (pgs_cons (pg_name (i := 10) sc.nd rfl (by first | exact Or.inl rfl | exact Or.inr rfl)) (pgs_cons (pg_name (i := 8) sc.nd rfl (by first | exact Or.inl rfl | exact Or.inr rfl)) pgs_nil)))) (fun _ _ _ _ _ => pts_nil) (fun _ _ _ _ _ => (pe_op (show OpR _ _ (rbAdd K) from ob_add) (pv 10) (pe_op (show OpR _ _ (rbMul K) from ob_mul) (pv 3) (pv 8))))) pa_nil)))))))), os_body h (ds := (r_told_prices (He.ga K "Basis"))) inferInstance (body_told_prices (He.ga K "Basis"))⟩

end
end K04
set_option Elab.async false
set_option linter.all false
set_option maxRecDepth 100000
set_option maxHeartbeats 4000000
set_option synthInstance.maxHeartbeats 4000000
set_option synthInstance.maxSize 100000
namespace K04
open PySem PySem.Spec PyProof.Rows L2 RZ Lf
theorem st_asgCO {env : Lf.Env} {i j n : Nat} {ow : OW} {w : Ow} {da : DA} {ds : List D} {E : DEnds} (hw : env[i]? = some (some (.o w))) (h : EvA da env ds) (l : ds.length + 1 = n) (k : ow w ds fun d w' => keepE env (env.set i (some (.o w'))) ∧ free (env.set i (some (.o w'))) j = true ∧ E.nx ((env.set i (some (.o w'))).set j (some (.d d)))) : dAsg (dCallO n ow i da) (dgN j) env E :=
  ⟨⟨w, hw⟩, h _ fun _ e => by subst e; exact ⟨l, keepE_refl, w, hw, k⟩⟩
theorem goodT {n : Nat} {cols : List (List Int)} {goal : List Int} : GoodS n cols goal (endT n cols goal) ∧ ∀ j, j < cols.length → Sx.wth n (endT n cols goal) (colF cols) j ≤ 0 := Sx.Good.gatT_end _ Sx.good_first (Nat.le_refl _)
theorem lowT {n : Nat} {cols : List (List Int)} {goal : List Int} (h : ¬ 0 < (endT n cols goal).lack n) : LowS n cols goal (frL n cols (endT n cols goal)) (endT n cols goal) := by
  obtain ⟨G, e⟩ := goodT (n := n) (cols := cols) (goal := goal)
  have := G.lack_nonneg
  exact ⟨G, ⟨by omega, e⟩, frL_mem⟩
def priceT (n : Nat) (s : Sx.St) : List Int := mk n (s.price n)
def dealS (n m : Nat) (s : Sx.St) : List Int := Sx.red (s.d :: cnts n m s)
def prS (n : Nat) (cols : List (List Int)) (c : List Int) (s : Sx.St) : List Int := Sx.red (s.d :: prI n cols c s)
def endD (n : Nat) (cols : List (List Int)) (s : Sx.St) (j : Nat) : List Int := Sx.red (mk cols.length (Sx.cntE n s (colF cols) j))
def leastD (n : Nat) (cols : List (List Int)) (c : List Int) (s : Sx.St) : D := .tup [.str "least", .tup [.int ((dealS n cols.length s).headD 0), rowD (dealS n cols.length s).tail], .tup [.int ((prS n cols c s).headD 0), rowD (prS n cols c s).tail]]
/-- what is told -/
noncomputable def solvedD (n : Nat) (cols : List (List Int)) (goal c : List Int) : D :=
  if 0 < (endT n cols goal).lack n then .tup [.str "none", rowD (Sx.red (priceT n (endT n cols goal)))] else
    match (lsnS n cols goal c (endT n cols goal)).2 with
    | none => leastD n cols c (lsnS n cols goal c (endT n cols goal)).1
    | some j => .tup [.str "endless", rowD (endD n cols (lsnS n cols goal c (endT n cols goal)).1 j)]
def w_solved : PW := fun ds C => ∃ n cols goal x p, ∃ c : List Int, CC n cols goal c ∧ ds = [.lst (cols.map spD), x, rowD goal] ∧ x.seq? = some (p, c.map .int) ∧ C (solvedD n cols goal c)
def w_solved_from (Cb : Addr) : OW := fun w ds K => ∃ n cols goal x p, ∃ c : List Int, CC n cols goal c ∧ w = bas Cb (stB n (Sx.St.first (Sx.fn goal))) ∧ ds = [.lst (cols.map spD), x] ∧ x.seq? = some (p, c.map .int) ∧ ∀ w', K (solvedD n cols goal c) w'
def r_solved_from (C : Addr) : DS := (dSeq (dDrop (dCallO 3 (w_gather C) 0 (dCons (dVar 1) (dCons (dC (.bl true)) dNil)))) (dSeq (dIfS (dTest (dOp (rIB fun i j => decide (j < i)) (dMethV C "lack" 1 v_Basis_lack 0 dNil) (dC (.int 0)))) (dRet (dTup (dCons (dC (.str "none")) (dCons (dCallP 1 w_reduced (dCons (dMethV C "stand_in_prices" 1 v_Basis_stand_in_prices 0 dNil) dNil)) dNil)))) dNext) (dSeq (dAsg (dCallO 3 (w_lessen C) 0 (dCons (dVar 1) (dCons (dVar 2) dNil))) (dgN 3)) (dSeq (dIfS (dTest (dOp dNotN (dVar 3) (dC .non))) (dRet (dTup (dCons (dC (.str "endless")) (dCons (dVar 3) dNil)))) dNext) (dFrzB C 0 (dRet (dTup (dCons (dC (.str "least")) (dCons (dCallO 2 (w_told_deal C) 0 (dCons (dCB dLen (dCons (dVar 1) dNil)) dNil)) (dCons (dCallO 3 (w_told_prices C) 0 (dCons (dVar 1) (dCons (dVar 2) dNil))) dNil))))))))))
def r_solved (C : Addr) : DS := (dRet (dMkCall C 3 (w_solved_from C) 2 (dCons (dVar 0) (dCons (dVar 1) dNil))))
theorem priceT_wide {n : Nat} {cols : List (List Int)} {goal : List Int} {s : Sx.St} (cg : CG n cols goal) (G : GoodS n cols goal s) : Wide (priceT n s) := wide_of fun x hx => by
  obtain ⟨i, hi, rfl⟩ := List.mem_map.mp hx
  exact price_abs cg G (List.mem_range.mp hi)
theorem body_solved_from (Cb : Addr) : ∀ (w : Ow) (as : List D) (C : D → Ow → Prop), as.length + 1 = 3 → w_solved_from Cb w as C →
    r_solved_from Cb (some (.o w) :: env0 (["basis", "columns", "costs", "counts"].length - 3) as) { nx := fun env' => ∃ w', env'[0]? = some (some (.o w')) ∧ C .non w', rt := fun d env' => ∃ w', env'[0]? = some (some (.o w')) ∧ C d w' } := by
  rintro w as C _ ⟨n, cols, goal, x, p, c, cc, rfl, rfl, hx, h⟩
  have cg := cc.cg
  have n60 := cg.ok.n60
  have few := cg.ok.few
  have lc : (cols.map spD).length = cols.length := List.length_map ..
  have G := (goodT (n := n) (cols := cols) (goal := goal)).1
  refine st_seq (st_callO (w := bas Cb (stB n (Sx.St.first (Sx.fn goal)))) (by rfl) (ea_cons (ev_var (by rfl)) (ea_cons ev_c ea_nil)) rfl ⟨true, n, cols, goal, cg, rfl, rfl, keepE_set, ?_⟩)
  have eT : endB true n cols goal = endT n cols goal := rfl
  rw [eT]
  dsimp only
  refine st_seq (st_if1 (p := decide (0 < (endT n cols goal).lack n)) (et_test (ev_op (es_methV (w := bas Cb (stB n (endT n cols goal))) (S := fun d => d = .int ((endT n cols goal).lack n)) (by rfl) asRec_bas rfl ea_nil rfl fun K k => ⟨n, _, rfl, n60, rfl, k _ rfl⟩) ev_c fun C k => rv_ib rfl k)) (fun hq => ?_) fun hq => ?_)
  · have lk := of_decide_eq_true hq
    have e1 : solvedD n cols goal c = .tup [.str "none", rowD (Sx.red (priceT n (endT n cols goal)))] := by unfold solvedD; rw [if_pos lk]
    rw [e1] at h
    exact st_ret1 (d := .tup [.str "none", rowD (Sx.red (priceT n (endT n cols goal)))]) (ev_tup (ea_cons ev_c (ea_cons (ev_call (ea_cons (es_methV (w := bas Cb (stB n (endT n cols goal))) (S := fun d => d = lstD (priceT n (endT n cols goal))) (by rfl) asRec_bas rfl ea_nil rfl fun K k => ⟨n, _, rfl, n60, rfl, k _ rfl⟩) ea_nil) rfl fun C k => ⟨_, priceT n (endT n cols goal), rfl, rfl, by show (mk _ _).length ≤ 1000; rw [mk_len]; omega, priceT_wide cg G, k⟩) ea_nil)) (by show 2 ≤ 100000; decide)) ⟨_, by rfl, h _⟩
  · have lk := of_decide_eq_false hq
    simp only [dNext]
    have W := lowT lk
    have L := Sx.Low.lsn (c := Sx.fn c) (muS n cols goal c (endT n cols goal).M + 1) W (Nat.lt_succ_self _)
    have LW : LowS n cols goal (frL n cols (endT n cols goal)) (lsnS n cols goal c (endT n cols goal)).1 := L.1
    refine st_seq (st_asgCO (w := bas Cb (stB n (endT n cols goal))) (by rfl) (ea_cons (ev_var (by rfl)) (ea_cons (ev_var (by rfl)) ea_nil)) rfl ⟨n, cols, goal, endT n cols goal, x, p, c, cc, W, rfl, rfl, hx, fun hn => ⟨keepE_set, by rfl, ?_⟩, fun j hj => ⟨keepE_set, by rfl, ?_⟩⟩)
    · have e1 : solvedD n cols goal c = leastD n cols c (lsnS n cols goal c (endT n cols goal)).1 := by unfold solvedD; rw [if_neg lk, hn]
      rw [e1] at h
      dsimp only
      refine st_seq (st_if1 (p := false) (et_test (ev_op (ev_var (d := .non) (by rfl)) ev_c fun C k => rv_notN rfl k)) (fun e => nomatch e) fun _ => ?_)
      simp only [dNext]
      refine ⟨stB n (lsnS n cols goal c (endT n cols goal)).1, by rfl, ?_⟩
      refine st_ret1 (d := leastD n cols c (lsnS n cols goal c (endT n cols goal)).1) (ev_tup (ea_cons ev_c (ea_cons (es_callO (w := recO Cb (stB n (lsnS n cols goal c (endT n cols goal)).1).flds) (by rfl) (ea_cons (ev_cb (ea_cons (ev_var (by rfl)) ea_nil) fun C k => cv_len (xs := cols.map spD) rfl k) ea_nil) rfl fun C q => ⟨n, cols, goal, _, rfl, cg, LW.G, by rw [lc], q _ rfl⟩) (ea_cons (es_callO (w := recO Cb (stB n (lsnS n cols goal c (endT n cols goal)).1).flds) (by rfl) (ea_cons (ev_var (by rfl)) (ea_cons (ev_var (by rfl)) ea_nil)) rfl fun C q => ⟨n, cols, goal, _, x, p, c, cc, LW.G, rfl, rfl, hx, q _ rfl⟩) ea_nil))) (by show 3 ≤ 100000; decide)) ⟨_, by rfl, h _⟩
    · have e1 : solvedD n cols goal c = .tup [.str "endless", rowD (endD n cols (lsnS n cols goal c (endT n cols goal)).1 j)] := by unfold solvedD; rw [if_neg lk, hj]
      rw [e1] at h
      dsimp only
      refine st_seq (st_if1 (p := true) (et_test (ev_op (ev_var (d := rowD (endD n cols (lsnS n cols goal c (endT n cols goal)).1 j)) (by rfl)) ev_c fun C k => rv_notN rfl k)) (fun _ => ?_) fun e => nomatch e)
      exact st_ret1 (ev_tup (ea_cons ev_c (ea_cons (ev_var (by rfl)) ea_nil)) (by show 2 ≤ 100000; decide)) ⟨_, by rfl, h _⟩
theorem body_solved (Cb : Addr) : ∀ (as : List D) (C : D → Prop), as.length = 3 → w_solved as C → r_solved Cb (env0 (["columns", "costs", "goal"].length - 3) as) { nx := fun _ => C .non, rt := fun d _ => C d } := by
  rintro as C _ ⟨n, cols, goal, x, p, c, cc, rfl, hx, h⟩
  have n60 := cc.cg.ok.n60
  have glen := cc.cg.glen
  exact st_ret1 (d := solvedD n cols goal c) (ev_mkCall (goal := goal) (by rfl) (by omega) (ea_cons (ev_var (by rfl)) (ea_cons (ev_var (by rfl)) ea_nil)) rfl fun K k => ⟨n, cols, goal, x, p, c, cc, by rw [new_first glen], rfl, hx, k⟩) h
/-- numbers: a list (false) or a tuple (true) -/
def numsD (q : Bool) (c : List Int) : D := if q then .tup (c.map .int) else .lst (c.map .int)
theorem nums_items {q : Bool} {c : List Int} : (numsD q c).items? = some (c.map .int) := by cases q <;> rfl
theorem nums_seq {q : Bool} {c : List Int} : (numsD q c).seq? = some (q, c.map .int) := by cases q <;> rfl
theorem nums_isSeq {q : Bool} {c : List Int} : isSeq (numsD q c) = true := by cases q <;> rfl
def w_check_least : PW := fun ds C => ∃ p q n cols goal c, CC n cols goal c ∧ ds = [colsD p cols, numsD q c, rowD goal] ∧ C .non
def r_check_least : DS := (dSeq (dDrop (dCallP 2 w_check_columns_and_goal (dCons (dVar 0) (dCons (dVar 2) dNil)))) (dSeq (dIfS (dOr (dNot (dTest (dCallP 1 w_is_list (dCons (dVar 1) dNil)))) (dOr (dTest (dOp dNeD (dCB dLen (dCons (dVar 1) dNil)) (dCB dLen (dCons (dVar 0) dNil)))) (dNot (dTest (dCB dAll (dCons (dOfN (dLcN (diSeq (dVar 1)) (dgN 3) [3] dYes (dCallP 1 w_is_number (dCons (dVar 3) dNil)) [3])) dNil)))))) dNever dNext) (dIfS (dTest (dOp (rIB fun i j => decide (j < i)) (dCB dLen (dCons (dVar 0) dNil)) (dC (.int 400)))) dNever dNext)))
theorem body_check_least : ∀ (as : List D) (C : D → Prop), as.length = 3 → w_check_least as C → r_check_least (env0 (["columns", "costs", "goal", "cost"].length - 3) as) { nx := fun _ => C .non, rt := fun d _ => C d } := by
  rintro as C _ ⟨p, q, n, cols, goal, c, cc, rfl, h⟩
  have cg := cc.cg
  have few := cg.ok.few
  have clen := cc.clen
  have lc : (c.map D.int).length = c.length := List.length_map ..
  refine st_seq (st_drop (S := fun d => d = .non) (ev_call (ea_cons (ev_var (by rfl)) (ea_cons (ev_var (by rfl)) ea_nil)) rfl fun C k => ⟨p, cols, n, goal, rfl, cg.ok, cg.glen, k⟩) ?_)
  dsimp only
  refine st_seq (st_if1 (p := false) (et_or (p := false) (q := false) ?_ fun _ => et_or (p := false) (q := false) ?_ fun _ => ?_) (fun e => nomatch e) fun _ => ?_)
  · exact et_not (p := true) (et_test (ev_call (ea_cons (ev_var (by rfl)) ea_nil) rfl fun C k => ⟨_, rfl, by rw [nums_isSeq]; exact k⟩))
  · exact et_test (ev_op (ev_cb (ea_cons (ev_var (by rfl)) ea_nil) fun C k => cv_len nums_items k) (ev_cb (ea_cons (ev_var (by rfl)) ea_nil) fun C k => cv_len cols_items k) fun C k => rv_ne flat_int.shp flat_int.shp (by rw [dEq_int, List.length_map, List.length_map, clen]; simp) k)
  · refine et_not (p := true) (et_test (ev_cb (ea_cons (ev_map (fun _ => .bl true) (ei_seq (ev_var (by rfl)) nums_items) (by omega) (by simp) (by rfl) fun x hx => ⟨_, tg_n (by rfl), ?_⟩) ea_nil) fun C k => cv_allT k))
    exact ev_call (ea_cons (ev_var (by rfl)) ea_nil) rfl fun C k => ⟨x, rfl, by rw [mem_row hx]; exact k⟩
  simp only [dNext]
  exact st_if1 (p := false) (et_test (ev_op (ev_cb (ea_cons (ev_var (by rfl)) ea_nil) fun C k => cv_len cols_items k) ev_c fun C k => rv_ib (decide_eq_false (by rw [List.length_map]; omega)) k)) (fun e => nomatch e) fun _ => h
def w_least_deal : PW := fun ds C => ∃ p q n cols goal c, CC n cols goal c ∧ ds = [colsD p cols, numsD q c, rowD goal] ∧ C (solvedD n cols goal c)
def r_least_deal : DS := (dSeq (dDrop (dCallP 3 w_check_least (dCons (dVar 0) (dCons (dVar 1) (dCons (dVar 2) dNil))))) (dRet (dCallP 3 w_solved (dCons (dOfN (dLcN (diSeq (dVar 0)) (dgN 3) [3] dYes (dCallP 1 w_sparse (dCons (dVar 3) dNil)) [3])) (dCons (dVar 1) (dCons (dVar 2) dNil))))))
theorem body_least_deal : ∀ (as : List D) (C : D → Prop), as.length = 3 → w_least_deal as C → r_least_deal (env0 (["columns", "costs", "goal", "column"].length - 3) as) { nx := fun _ => C .non, rt := fun d _ => C d } := by
  rintro as C _ ⟨p, q, n, cols, goal, c, cc, rfl, h⟩
  have cg := cc.cg
  have few := cg.ok.few
  have n60 := cg.ok.n60
  refine st_seq (st_drop (S := fun d => d = .non) (ev_call (ea_cons (ev_var (by rfl)) (ea_cons (ev_var (by rfl)) (ea_cons (ev_var (by rfl)) ea_nil))) rfl fun C k => ⟨p, q, n, cols, goal, c, cc, rfl, k⟩) ?_)
  refine st_ret1 (d := solvedD n cols goal c) (ev_call (ea_cons (ev_of (ea_mapR (x := fun j => rowD (cols.getD j [])) (f := fun j => spD (cols.getD j [])) (n := cols.length) (ei_seq (ev_var (by rfl)) (by rw [cols_items, rows_range])) (by omega) (by simp) (by rfl) fun j hj => ⟨_, tg_n (by rfl), ?_⟩)) (ea_cons (ev_var (by rfl)) (ea_cons (ev_var (by rfl)) ea_nil))) rfl fun C k => ⟨n, cols, goal, _, q, c, cc, by rw [rows_range spD], nums_seq, k⟩) h
  have cl := colF_len cg.ok hj
  exact ev_call (ea_cons (ev_var (by rfl)) ea_nil) rfl fun C k => ⟨cols.getD j [], rfl, by omega, k⟩
section
variable {P : Program} {w : World} {K : PySem.W.Frag} {mg : Str → Option Value} {base : Heap}
theorem sc_solved_from : FnScope ["basis", "columns", "costs", "counts"] ["basis", "columns", "costs"] (defScope (top 33)) := ⟨rfl, rfl, rfl, by decide +kernel, rfl, by decide +kernel, by decide +kernel⟩
theorem ok_solved_from (T : Top P w K mg) : Fn P w K mg base 5 "solved_from" ["basis", "columns", "costs"] (OSp 3 (w_solved_from (He.ga K "Basis"))) := by
  obtain ⟨fd, F⟩ := T.fn 22 (x := "solved_from") (st := (top 33)) rfl
  have sc := sc_solved_from
  have tm : ∀ x, x ∈ frees → mg x = none := fun x hx => T.free x (mem_free hx)
  refine ⟨⟨fd, F.ok sc (fun vs H Q E h => h.len) (fun cdv A outer s H vs Q E hr h => ?d), F.bindsN fun _ _ _ _ _ _ us hl => match us, hl with | [_, _, _], _ => rfl⟩, T.glo "solved_from" (mem_glo (by decide +kernel)), F.kp⟩
  exact ⟨_, PSs.nox (pss_cons (ps_expr (pe_fO (ok_gather T) (hr.mono (by decide)) (by rfl) 0 (pa_cons (pv 0) (pa_cons (pv 1) (pa_cons pe_bl pa_nil))))) (pss_cons (ps_if (pt_cmpR op_gt (pe_methV (pe_m0 (clsB T) (methB T "lack" (by decide +kernel)) (ok_Basis_lack T) (hr.mono (by decide)) (pv 0))) pe_int (nomark _)) (pss_one (ps_ret (pe_tup (pa_cons pe_str (pa_cons (pe_f (ok_reduced T) (hr.mono (by decide)) rfl (pa_cons (pe_methV (pe_m0 (clsB T) (methB T "stand_in_prices" (by decide +kernel)) (ok_Basis_stand_in_prices T) (hr.mono (by decide)) (pv 0))) pa_nil)) pa_nil))))) pss_nil) (pss_cons (ps_set (i := 3) sc.nd rfl (by first | exact Or.inl rfl | exact Or.inr rfl) (pe_fO (ok_lessen T) hr (by rfl) 0 (pa_cons (pv 0) (pa_cons (pv 1) (pa_cons (pv 2) pa_nil))))) (pss_cons (ps_if (pt_cmpR op_notN1 (pv 3) pe_non (nomark _)) (pss_one (ps_ret (pe_tup (pa_cons pe_str (pa_cons (pv 3) pa_nil))))) pss_nil) (pss_frzB (He.ga K "Basis") 0 (pss_one (ps_ret (pe_tup (pa_cons pe_str (pa_cons (pe_fO (ok_told_deal T) hr (by rfl) 0 (pa_cons (pv 0) (pa_cons (pe_callB (show CallR _ _ (rLenQ K) from cl_len) (by rfl) (tm "len" (by decide +kernel)) (by decide +kernel) (pa_cons (pv 1) pa_nil)) pa_nil))) (pa_cons (pe_fO (ok_told_prices T) hr (by rfl) 0 (pa_cons (pv 0) (pa_cons (pv 1) (pa_cons (pv 2) pa_nil)))) pa_nil))))))))))), os_body h (ds := (r_solved_from (He.ga K "Basis"))) inferInstance (body_solved_from (He.ga K "Basis"))⟩
theorem sc_solved : FnScope ["columns", "costs", "goal"] ["columns", "costs", "goal"] (defScope (top 35)) := ⟨rfl, rfl, rfl, by decide +kernel, rfl, by decide +kernel, by decide +kernel⟩
theorem ok_solved (T : Top P w K mg) : Fn P w K mg base 6 "solved" ["columns", "costs", "goal"] (PSp 3 w_solved) := by
  obtain ⟨fd, F⟩ := T.fn 24 (x := "solved") (st := (top 35)) rfl
  have sc := sc_solved
  have tm : ∀ x, x ∈ frees → mg x = none := fun x hx => T.free x (mem_free hx)
  obtain ⟨fdI, FI, bI⟩ := ok_Basis___init__ T (base := base)
  refine ⟨⟨fd, F.ok sc (fun vs H Q E h => h.len) (fun cdv A outer s H vs Q E hr h => ?d), F.bindsN fun _ _ _ _ _ _ us hl => match us, hl with | [_, _, _], _ => rfl⟩, T.glo "solved" (mem_glo (by decide +kernel)), F.kp⟩
  exact ⟨_, PSs.nox (pss_one (ps_ret (pe_mkCall (pe_f (ok_solved_from T) hr rfl (pa_cons (pe_make (mkrB T) FI (hr.mono (by decide)) (by rfl) (T.glo "Basis" (mem_glo (by decide +kernel))) bI .nil pass0 (pa_cons (pv 2) pa_nil)) (pa_cons (pv 0) (pa_cons (pv 1) pa_nil))))))), ps_body h (ds := (r_solved (He.ga K "Basis"))) inferInstance (body_solved (He.ga K "Basis"))⟩
theorem sc_check_least : FnScope ["columns", "costs", "goal", "cost"] ["columns", "costs", "goal"] (defScope (top 42)) := ⟨rfl, rfl, rfl, by decide +kernel, rfl, by decide +kernel, by decide +kernel⟩
theorem ok_check_least (T : Top P w K mg) : Fn P w K mg base 6 "check_least" ["columns", "costs", "goal"] (PSp 3 w_check_least) := by
  obtain ⟨fd, F⟩ := T.fn 29 (x := "check_least") (st := (top 42)) rfl
  have sc := sc_check_least
  have tm : ∀ x, x ∈ frees → mg x = none := fun x hx => T.free x (mem_free hx)
  refine ⟨⟨fd, F.ok sc (fun vs H Q E h => h.len) (fun cdv A outer s H vs Q E hr h => ?d), F.bindsN fun _ _ _ _ _ _ us hl => match us, hl with | [_, _, _], _ => rfl⟩, T.glo "check_least" (mem_glo (by decide +kernel)), F.kp⟩
  exact ⟨_, PSs.nox (pss_cons (ps_expr (pe_f (ok_check_columns_and_goal T) hr rfl (pa_cons (pv 0) (pa_cons (pv 2) pa_nil)))) (pss_cons (ps_if (PW.pt (pw_or (pt_not (pt_val (pe_f (ok_is_list T) (hr.mono (by decide)) rfl (pa_cons (pv 1) pa_nil)))) (pw_or (pt_cmpR (show OpR _ _ (rNeD K) from op_neD hr.units) (pe_callB (show CallR _ _ (rLenQ K) from cl_len) (by rfl) (tm "len" (by decide +kernel)) (by decide +kernel) (pa_cons (pv 1) pa_nil)) (pe_callB (show CallR _ _ (rLenQ K) from cl_len) (by rfl) (tm "len" (by decide +kernel)) (by decide +kernel) (pa_cons (pv 0) pa_nil)) (nomark _)) (pw_or1 (pt_not (pt_val (pe_callB (show CallR _ _ (rAll K) from cr_all rfl) (by rfl) (tm "all" (by decide +kernel)) (by decide +kernel) (pa_cons (pe_lc (own := [("cost", 3)]) (g := (gName 3)) rfl sc.nd (pi_seq (pv 1)) (blkOk_by (N := ["columns", "costs", "goal", "cost"]) (sc := defScope (top 42)) (by decide +kernel)) (fun _ _ _ _ _ => (pg_name (i := 3) sc.nd rfl (by first | exact Or.inl rfl | exact Or.inr rfl))) (fun _ _ _ _ _ => pts_nil) (fun _ _ _ _ _ => (pe_f (ok_is_number T) (hr.mono (by decide)) rfl (pa_cons (pv 3) pa_nil)))) pa_nil)))))))) (pss_one ps_never) pss_nil) (pss_one (ps_if (pt_cmpR op_gt (pe_callB (show CallR _ _ (rLenQ K) from cl_len) (by rfl) (tm "len" (by decide +kernel)) (by decide +kernel) (pa_cons (pv 0) pa_nil)) pe_int (nomark _)) (pss_one ps_never) pss_nil)))), ps_body h (ds := r_check_least) inferInstance body_check_least⟩
theorem sc_least_deal : FnScope ["columns", "costs", "goal", "column"] ["columns", "costs", "goal"] (defScope (top 43)) := ⟨rfl, rfl, rfl, by decide +kernel, rfl, by decide +kernel, by decide +kernel⟩
theorem okd_least_deal (T : Top P w K mg) : ∃ fd, FunD K "least_deal" "least_deal" (defArgs (top 43)) (defBody (top 43)) (defScope (top 43)) [] [] (He.ga K "least_deal") fd ∧ FnOk P w K mg base CX0 7 (He.ga K "least_deal") fd ["columns", "costs", "goal"] (PSp 3 w_least_deal) := by
  obtain ⟨fd, F⟩ := T.fn 30 (x := "least_deal") (st := (top 43)) rfl
  have sc := sc_least_deal
  have tm : ∀ x, x ∈ frees → mg x = none := fun x hx => T.free x (mem_free hx)
  refine ⟨fd, F, F.ok sc (fun vs H Q E h => h.len) (fun cdv A outer s H vs Q E hr h => ?d)⟩
  exact ⟨_, PSs.nox (pss_cons (ps_expr (pe_f (ok_check_least T) hr rfl (pa_cons (pv 0) (pa_cons (pv 1) (pa_cons (pv 2) pa_nil))))) (pss_one (ps_ret (pe_f (ok_solved T) hr rfl (pa_cons (pe_lc (own := [("column", 3)]) (g := (gName 3)) rfl sc.nd (pi_seq (pv 0)) (blkOk_by (N := ["columns", "costs", "goal", "column"]) (sc := defScope (top 43)) (by decide +kernel)) (fun _ _ _ _ _ => (pg_name (i := 3) sc.nd rfl (by first | exact Or.inl rfl | exact Or.inr rfl))) (fun _ _ _ _ _ => pts_nil) (fun _ _ _ _ _ => (pe_f (ok_sparse T) (hr.mono (by decide)) rfl (pa_cons (pv 3) pa_nil)))) (pa_cons (pv 1) (pa_cons (pv 2) pa_nil))))))), ps_body h (ds := r_least_deal) inferInstance body_least_deal⟩
theorem ok_least_deal (T : Top P w K mg) : Fn P w K mg base 7 "least_deal" ["columns", "costs", "goal"] (PSp 3 w_least_deal) := by
  obtain ⟨fd, F, G⟩ := okd_least_deal T (base := base)
  exact ⟨⟨fd, G, F.bindsN fun _ _ _ _ _ _ us hl => match us, hl with | [_, _, _], _ => rfl⟩, T.glo "least_deal" (mem_glo (by decide +kernel)), F.kp⟩
theorem okk_least_deal_app1 (T : Top P w K mg) : FnK P w K mg base 7 "least_deal" ["columns", "costs", "goal"] (PSp 3 w_least_deal) .app 1 ["costs", "goal"] := by
  obtain ⟨fd, F, G⟩ := okd_least_deal T (base := base)
  exact ⟨_, _, G, kbG F .app 1 ["costs", "goal"] (fun _ _ _ _ _ _ us ws h1 h2 => match us, ws, h1, h2 with | [_], [_, _], _, _ => rfl), T.glo "least_deal" (mem_glo (by decide +kernel)), F.kp⟩
theorem okk_least_deal_rev0 (T : Top P w K mg) : FnK P w K mg base 7 "least_deal" ["columns", "costs", "goal"] (PSp 3 w_least_deal) .rev 0 ["goal", "costs", "columns"] := by
  obtain ⟨fd, F, G⟩ := okd_least_deal T (base := base)
  exact ⟨_, _, G, kbG F .rev 0 ["goal", "costs", "columns"] (fun _ _ _ _ _ _ us ws h1 h2 => match us, ws, h1, h2 with | [], [_, _, _], _, _ => rfl), T.glo "least_deal" (mem_glo (by decide +kernel)), F.kp⟩

end
end K04
set_option Elab.async false
set_option linter.all false
set_option maxRecDepth 100000
set_option maxHeartbeats 4000000
set_option synthInstance.maxHeartbeats 4000000
set_option synthInstance.maxSize 100000
namespace K04
open PySem PySem.Spec PyProof.Rows L2 RZ Lf
theorem damT_ok {n : Nat} {cols : List (List Int)} {goal : List Int} {s : Sx.St} (G : GoodS n cols goal s) (e : ∀ j, j < cols.length → Sx.wth n s (colF cols) j ≤ 0) (h : 0 < s.lack n) : DamOk n cols goal (Sx.red (priceT n s)) := by
  have gp : (0 : Int) < (Sx.redG (priceT n s) : Int) := by have := Sx.redG_pos (priceT n s); omega
  have pr : ∀ x : Sx.Vec, Sx.dot n (Sx.fn (priceT n s)) x = Sx.dot n (s.price n) x := fun x => Sx.dot_congr (fun i hi => mk_at hi) fun _ _ => rfl
  refine ⟨by rw [Sx.red_len]; exact mk_len _ _, fun r hr => ?_, ?_⟩
  · obtain ⟨j, hj⟩ := List.mem_iff_getElem?.mp hr
    have hl := (List.getElem?_eq_some_iff.mp hj).1
    have h1 := e j hl
    unfold Sx.wth at h1
    rw [colF_of hj, ← pr, dot_red] at h1
    by_cases q : Sx.dot n (Sx.fn (Sx.red (priceT n s))) (Sx.fn r) ≤ 0
    · exact q
    · have := Int.mul_pos gp (show 0 < Sx.dot n (Sx.fn (Sx.red (priceT n s))) (Sx.fn r) by omega)
      omega
  · have h1 := G.price_goal
    rw [← pr, dot_red] at h1
    by_cases q : 0 < Sx.dot n (Sx.fn (Sx.red (priceT n s))) (Sx.fn goal)
    · exact q
    · have := Int.mul_nonpos_of_nonneg_of_nonpos (Int.le_of_lt gp) (show Sx.dot n (Sx.fn (Sx.red (priceT n s))) (Sx.fn goal) ≤ 0 by omega)
      omega
/-- numbers below what the built-ins bear -/
def Big (r : List Int) : Prop := ∀ x ∈ r, x.natAbs < 2 ^ 20000
theorem red_big {r : List Int} (h : Big r) : Big (Sx.red r) := fun x hx => by
  obtain ⟨i, hi⟩ := List.mem_iff_getElem?.mp hx
  have hl := (List.getElem?_eq_some_iff.mp hi).1
  rw [Sx.red_len] at hl
  have e := Sx.red_at r i
  rw [Sx.fn_of hi] at e
  have := h _ (Sx.fn_mem hl)
  rw [e, Int.natAbs_mul, Int.natAbs_natCast] at this
  have g := Sx.redG_pos r
  exact Nat.lt_of_le_of_lt (Nat.le_mul_of_pos_left _ g) this
theorem pos_of {g : Nat} (gp : 0 < g) {x : Int} (hx : 0 < (g : Int) * x) : 0 < x := by
  by_cases q : 0 < x
  · exact q
  · have := Int.mul_nonpos_of_nonneg_of_nonpos (show (0 : Int) ≤ (g : Int) by omega) (show x ≤ 0 by omega); omega
theorem nn_of {g : Nat} (gp : 0 < g) {x : Int} (hx : 0 ≤ (g : Int) * x) : 0 ≤ x := by
  by_cases q : 0 ≤ x
  · exact q
  · have := Int.mul_pos (show (0 : Int) < (g : Int) by omega) (show 0 < -x by omega)
    rw [Int.mul_neg] at this; omega
/-- the head and the tail of what is reduced -/
theorem split_red {s : Int} {f : Nat → Int} {m : Nat} (d0 : 0 < s) : ∃ g : Nat, 0 < g ∧ ∃ t u, Sx.red (s :: mk m f) = t :: u ∧ s = (g : Int) * t ∧ u.length = m ∧ (∀ j, j < m → f j = (g : Int) * Sx.fn u j) ∧ 1 ≤ t ∧ Sx.gcdL (t :: u) = 1 := by
  have nz : Sx.gcdL (s :: mk m f) ≠ 0 := fun z => by
    have := Sx.gcd_zero z _ List.mem_cons_self
    omega
  have lenE : (Sx.red (s :: mk m f)).length = m + 1 := by rw [Sx.red_len, List.length_cons, mk_len]
  obtain ⟨t, u, ex⟩ := red_cons s (mk m f)
  have gp := Sx.redG_pos (s :: mk m f)
  have at_ := Sx.red_at (s :: mk m f)
  have gc := Sx.red_gcd nz
  rw [ex] at at_ lenE gc
  generalize Sx.redG (s :: mk m f) = g at at_ gp
  have a0 : s = (g : Int) * t := at_ 0
  refine ⟨g, gp, t, u, ex, a0, by simpa using lenE, fun j hj => ?_, ?_, gc⟩
  · have := at_ (j + 1)
    rw [Sx.fn_succ, Sx.fn_succ, mk_at hj] at this
    exact this
  · have := pos_of gp (x := t) (by omega); omega
theorem dealS_ok {n : Nat} {cols : List (List Int)} {goal : List Int} {s : Sx.St} (G : GoodS n cols goal s) (h : s.lack n ≤ 0) : ∃ g : Nat, 0 < g ∧ ∃ t u, dealS n cols.length s = t :: u ∧ s.d = (g : Int) * t ∧ (∀ j, j < cols.length → s.count n j = (g : Int) * Sx.fn u j) ∧ DealOk n cols goal t u := by
  obtain ⟨g, gp, t, u, ex, a0, lu, aj, t1, gc⟩ := split_red (f := s.count n) (m := cols.length) G.U.pos
  refine ⟨g, gp, t, u, ex, a0, aj, t1, lu, fun c hc => ?_, fun i hi => ?_, gc⟩
  · obtain ⟨j, hj⟩ := List.mem_iff_getElem?.mp hc
    have hl := (List.getElem?_eq_some_iff.mp hj).1
    rw [← Sx.fn_of hj]
    refine nn_of gp ?_
    rw [← aj j (by omega)]
    exact G.count_nonneg j
  · have := G.deal h hi
    have e1 : Sx.sm cols.length (fun j => s.count n j * colF cols j i) = (g : Int) * Sx.sm cols.length fun j => Sx.fn u j * colF cols j i := by
      rw [← Sx.sm_mul]
      exact Sx.sm_congr fun j hj => by rw [aj j hj]; exact Int.mul_assoc ..
    rw [e1, a0, Int.mul_assoc] at this
    exact Int.eq_of_mul_eq_mul_left (by omega) this
/-- what lowers without end -/
structure EndOk (n : Nat) (cols : List (List Int)) (c e : List Int) : Prop where
  len : e.length = cols.length
  nn : ∀ x ∈ e, 0 ≤ x
  gcd : Sx.gcdL e = 1
  sum : ∀ i, i < n → Sx.sm cols.length (fun j => Sx.fn e j * colF cols j i) = 0
  neg : Sx.dot e.length (Sx.fn e) (Sx.fn c) < 0
theorem end_ok {n : Nat} {cols : List (List Int)} {goal c : List Int} {fr : List Nat} {s : Sx.St} (W : LowS n cols goal fr s) {j : Nat} (hj : j ∈ fr) (pos : 0 < Sx.gain n (Sx.cw (Sx.fn c)) s (colF cols) j) (le : ∀ k, k < n → s.lift n (colF cols j) k ≤ 0) : EndOk n cols c (endD n cols s j) := by
  obtain ⟨z1, z2⟩ := W.endless hj pos le
  have hm := ((W.fr j).mp hj).1
  have nz : Sx.gcdL (mk cols.length (Sx.cntE n s (colF cols) j)) ≠ 0 := fun z => by
    have := Sx.gcd_zero z s.d (List.mem_map.mpr ⟨j, List.mem_range.mpr hm, by unfold Sx.cntE; rw [if_pos rfl]⟩)
    have := W.G.U.pos
    omega
  have lenE : (endD n cols s j).length = cols.length := by unfold endD; rw [Sx.red_len, mk_len]
  have gp := Sx.redG_pos (mk cols.length (Sx.cntE n s (colF cols) j))
  have at_ : ∀ i, i < cols.length → Sx.cntE n s (colF cols) j i = (Sx.redG (mk cols.length (Sx.cntE n s (colF cols) j)) : Int) * Sx.fn (endD n cols s j) i := fun i hi => by
    have := Sx.red_at (mk cols.length (Sx.cntE n s (colF cols) j)) i
    rw [mk_at hi] at this
    exact this
  generalize Sx.redG (mk cols.length (Sx.cntE n s (colF cols) j)) = g at at_ gp
  have sum_ : ∀ x : Nat → Int, Sx.sm cols.length (fun t => Sx.cntE n s (colF cols) j t * x t) = (g : Int) * Sx.sm cols.length fun t => Sx.fn (endD n cols s j) t * x t := fun x => by
    rw [← Sx.sm_mul]
    exact Sx.sm_congr fun t ht => by rw [at_ t ht]; exact Int.mul_assoc ..
  refine ⟨lenE, fun x hx => ?_, Sx.red_gcd nz, fun i hi => ?_, ?_⟩
  · obtain ⟨i, hi⟩ := List.mem_iff_getElem?.mp hx
    have hl := (List.getElem?_eq_some_iff.mp hi).1
    rw [← Sx.fn_of hi]
    refine nn_of gp ?_
    rw [← at_ i (by omega)]
    exact W.cntE_nonneg le i
  · have := z1 i hi
    rw [sum_] at this
    rcases Int.mul_eq_zero.mp this with q | q
    · omega
    · exact q
  · rw [sum_] at z2
    rw [lenE]
    have := pos_of gp (x := - Sx.sm cols.length fun t => Sx.fn (endD n cols s j) t * Sx.fn c t) (by rw [Int.mul_neg]; omega)
    show Sx.sm cols.length (fun t => Sx.fn (endD n cols s j) t * Sx.fn c t) < 0
    omega
structure PriceOk (n : Nat) (cols : List (List Int)) (c : List Int) (q : Int) (pr : List Int) : Prop where
  q1 : 1 ≤ q
  len : pr.length = n
  gcd : Sx.gcdL (q :: pr) = 1
  col : ∀ j, j < cols.length → Sx.dot n (Sx.fn pr) (colF cols j) ≤ q * Sx.fn c j
structure LeastOk (n : Nat) (cols : List (List Int)) (goal c : List Int) (s : Int) (cnt : List Int) (q : Int) (pr : List Int) : Prop where
  deal : DealOk n cols goal s cnt
  pri : PriceOk n cols c q pr
  eq : Sx.dot cols.length (Sx.fn c) (Sx.fn cnt) * q = Sx.dot n (Sx.fn pr) (Sx.fn goal) * s
  bs : Big (s :: cnt)
  bq : Big (q :: pr)
theorem least_ok {n : Nat} {cols : List (List Int)} {goal c : List Int} {fr : List Nat} {s : Sx.St} (cc : CC n cols goal c) (W : LowS n cols goal fr s) (le : ∀ j ∈ fr, Sx.gain n (Sx.cw (Sx.fn c)) s (colF cols) j ≤ 0) :
    ∃ t u q pr, leastD n cols c s = .tup [.str "least", .tup [.int t, rowD u], .tup [.int q, rowD pr]] ∧ LeastOk n cols goal c t u q pr := by
  have cg := cc.cg
  have n60 := cg.ok.n60
  have bnd := GoodS.bnd cg W.G
  obtain ⟨g, gp, t, u, e1, a1, aj, dk⟩ := dealS_ok W.G (by have := W.K.lack; omega)
  obtain ⟨g2, gp2, q, pr, e2, b0, lp, bj, q1, gc⟩ := split_red (f := fun i => Sx.wsum n (Sx.cw (Sx.fn c)) s (i + 1) + mostI n cols c s cols.length * s.price n i) (m := n) W.G.U.pos
  have dp : ∀ x : Sx.Vec, Sx.dot n (fun i => Sx.wsum n (Sx.cw (Sx.fn c)) s (i + 1) + mostI n cols c s cols.length * s.price n i) x = (g2 : Int) * Sx.dot n (Sx.fn pr) x := fun x => by
    unfold Sx.dot
    rw [← Sx.sm_mul]
    exact Sx.sm_congr fun i hi => by
      dsimp only
      rw [bj i hi]; exact Int.mul_assoc ..
  have e3 : prS n cols c s = q :: pr := e2
  have big1 : Big (s.d :: cnts n cols.length s) := fun x hx => by
    have lt : (2 : Nat) ^ 8000 < 2 ^ 20000 := Nat.pow_lt_pow_right (by omega) (by omega)
    refine Nat.lt_trans ?_ lt
    rcases List.mem_cons.mp hx with rfl | hx
    · exact bnd.d
    · obtain ⟨j, hj, rfl⟩ := List.mem_map.mp hx
      by_cases q : ∃ k, k < n ∧ s.M k = some j
      · obtain ⟨k, hk, e⟩ := q
        rw [W.G.count_at hk e]; exact bnd.L k hk
      · have : s.count n j = 0 := Sx.sm_zero fun k hk => by
          split
          · next e => exact absurd ⟨k, hk, e⟩ q
          · rfl
        rw [this]; exact Nat.two_pow_pos _
  have big2 : Big (s.d :: prI n cols c s) := fun x hx => by
    rcases List.mem_cons.mp hx with rfl | hx
    · exact Nat.lt_trans bnd.d (Nat.pow_lt_pow_right (by omega) (by omega))
    · obtain ⟨i, hi, rfl⟩ := List.mem_map.mp hx
      have hi := List.mem_range.mp hi
      have hc : ∀ j, j < cols.length → (Sx.fn c j).natAbs ≤ 2 ^ 64 := fun j hj => by
        have := cc.csm _ (Sx.fn_mem (r := c) (i := j) (by rw [cc.clen]; exact hj))
        omega
      have h1 : (Sx.wsum n (Sx.cw (Sx.fn c)) s (i + 1)).natAbs ≤ n * (2 ^ 64 * 2 ^ 8000) := Sx.sm_abs fun k hk => by
        rw [Int.natAbs_mul]
        refine Nat.mul_le_mul ?_ (Nat.le_of_lt (bnd.N k hk i hi))
        cases q : s.M k with
        | none => exact Nat.zero_le _
        | some t => exact hc t (W.G.inn k hk t q)
      have mw : (mostI n cols c s cols.length).natAbs < 2 ^ 8100 := most_lt (Nat.two_pow_pos _) fun j hj => gn_abs cc W.G hj
      have h2 : (mostI n cols c s cols.length * s.price n i).natAbs ≤ 2 ^ 8100 * 2 ^ 8000 := by
        rw [Int.natAbs_mul]
        exact Nat.mul_le_mul (Nat.le_of_lt mw) (Nat.le_of_lt (price_abs cg W.G hi))
      have h3 := Int.natAbs_add_le (Sx.wsum n (Sx.cw (Sx.fn c)) s (i + 1)) (mostI n cols c s cols.length * s.price n i)
      have e1 : (2 : Nat) ^ 64 * 2 ^ 8000 = 2 ^ 8064 := by rw [← Nat.pow_add]
      have e2 : (2 : Nat) ^ 8100 * 2 ^ 8000 = 2 ^ 16100 := by rw [← Nat.pow_add]
      have e4 : (2 : Nat) ^ 8064 < 2 ^ 16100 := Nat.pow_lt_pow_right (by omega) (by omega)
      have e5 : (64 : Nat) * 2 ^ 16100 = 2 ^ 16106 := by rw [show (64 : Nat) = 2 ^ 6 from rfl, ← Nat.pow_add]
      have e6 : (2 : Nat) ^ 16106 < 2 ^ 20000 := Nat.pow_lt_pow_right (by omega) (by omega)
      rw [e1] at h1
      rw [e2] at h2
      have h4 : n * 2 ^ 8064 ≤ 60 * 2 ^ 8064 := Nat.mul_le_mul_right _ n60
      generalize (2 : Nat) ^ 8064 = a at *
      generalize (2 : Nat) ^ 16100 = b at *
      refine Nat.lt_of_le_of_lt h3 ?_
      omega
  have b1 := red_big big1
  have b2 := red_big big2
  have e1' : Sx.red (s.d :: cnts n cols.length s) = t :: u := e1
  have e2' : Sx.red (s.d :: prI n cols c s) = q :: pr := e2
  rw [e1'] at b1
  rw [e2'] at b2
  refine ⟨t, u, q, pr, by unfold leastD; rw [e1, e3]; rfl, dk, ⟨q1, lp, gc, fun j hj => ?_⟩, ?_, b1, b2⟩
  · have h := W.prices (c := Sx.fn c) le (most := mostI n cols c s cols.length) (fun j hj w => most_ge hj w) hj
    rw [dp, b0, Int.mul_assoc] at h
    exact Int.le_of_mul_le_mul_left h (by omega)
  · have h := W.prices_goal (Sx.fn c) (mostI n cols c s cols.length)
    rw [dp] at h
    have e : Sx.sm cols.length (fun j => s.count n j * Sx.fn c j) = (g : Int) * Sx.dot cols.length (Sx.fn c) (Sx.fn u) := by
      unfold Sx.dot
      rw [← Sx.sm_mul]
      exact Sx.sm_congr fun j hj => by rw [aj j hj]; grind
    rw [e] at h
    have a2 : (g : Int) * t = (g2 : Int) * q := by rw [← a1, ← b0]
    have h2 : (g : Int) * (g2 : Int) * (Sx.dot cols.length (Sx.fn c) (Sx.fn u) * q) = (g : Int) * (g2 : Int) * (Sx.dot n (Sx.fn pr) (Sx.fn goal) * t) := by
      generalize Sx.dot cols.length (Sx.fn c) (Sx.fn u) = x at *
      generalize Sx.dot n (Sx.fn pr) (Sx.fn goal) = y at *
      have h3 : (g : Int) * x * ((g2 : Int) * q) = (g2 : Int) * y * ((g : Int) * t) := by rw [h, a2]
      grind
    have gg : (0 : Int) < (g : Int) * (g2 : Int) := Int.mul_pos (by omega) (by omega)
    exact Int.eq_of_mul_eq_mul_left (by omega) h2
/-- what is told, by cases -/
theorem least_cases {n : Nat} {cols : List (List Int)} {goal c : List Int} (cc : CC n cols goal c) :
    (HasDam n cols goal ∧ ∃ w, DamOk n cols goal w ∧ solvedD n cols goal c = .tup [.str "none", rowD w]) ∨
    (¬ HasDam n cols goal ∧ ∃ e, EndOk n cols c e ∧ solvedD n cols goal c = .tup [.str "endless", rowD e]) ∨
    (¬ HasDam n cols goal ∧ ∃ s cnt q pr, LeastOk n cols goal c s cnt q pr ∧ solvedD n cols goal c = .tup [.str "least", .tup [.int s, rowD cnt], .tup [.int q, rowD pr]]) := by
  obtain ⟨G, e⟩ := goodT (n := n) (cols := cols) (goal := goal)
  by_cases lk : 0 < (endT n cols goal).lack n
  · have dk := damT_ok G e lk
    exact .inl ⟨⟨_, dk.col, dk.goal⟩, _, dk, by unfold solvedD; rw [if_pos lk]⟩
  · have W := lowT lk
    obtain ⟨g, gp, t, u, e1, a1, aj, dk⟩ := dealS_ok G (by omega)
    have nd : ¬ HasDam n cols goal := by
      rintro ⟨w, h1, h2⟩
      refine Sx.never_both (m := cols.length) (C := colF cols) (cnt := Sx.fn u) (d := t) (by have := dk.s1; omega) (fun j hj => ?_) dk.sum (fun j hj => ?_) h2
      · exact dk.nn _ (Sx.fn_mem (by rw [dk.len]; exact hj))
      · obtain ⟨r, hr, e⟩ := colF_mem hj
        rw [e]; exact h1 r hr
    obtain ⟨LW, L⟩ := Sx.Low.lsn (c := Sx.fn c) (muS n cols goal c (endT n cols goal).M + 1) W (Nat.lt_succ_self _)
    rcases L with ⟨hn, le⟩ | ⟨j, hj, jin, pos, le⟩
    · have hn : (lsnS n cols goal c (endT n cols goal)).2 = none := hn
      obtain ⟨t, u, q, pr, e3, ok⟩ := least_ok cc LW le
      exact .inr (.inr ⟨nd, t, u, q, pr, ok, by unfold solvedD; rw [if_neg lk, hn]; exact e3⟩)
    · have hj : (lsnS n cols goal c (endT n cols goal)).2 = some j := hj
      exact .inr (.inl ⟨nd, _, end_ok LW jin pos le, by unfold solvedD; rw [if_neg lk, hj]; rfl⟩)
section
variable {P : Program} {w : World} {K : PySem.W.Frag} {mg : Str → Option Value} {base : Heap}

end
end K04
set_option Elab.async false
set_option linter.all false
set_option maxRecDepth 100000
set_option maxHeartbeats 4000000
set_option synthInstance.maxHeartbeats 4000000
set_option synthInstance.maxSize 100000
namespace K04
open PySem PySem.Spec PyProof.Rows L2 RZ Lf
theorem c_range {c : List Int} {m : Nat} (h : c.length = m) : c.map D.int = (List.range m).map fun j => D.int (Sx.fn c j) := by
  subst h
  conv => lhs; rw [Sx.list_fn c]
  rw [List.map_map]; rfl
theorem cc_zip {cols : List (List Int)} {c : List Int} (h : c.length = cols.length) : zipD (cols.map rowD) (c.map D.int) = (List.range cols.length).map fun j => .tup [rowD (cols.getD j []), .int (Sx.fn c j)] := by
  rw [c_range h, rows_range rowD, zip_range]
theorem kit_str {x : Str} : kitB (D.str x).ty "str" = some true := by simp only [D.ty]; decide +kernel
theorem cols_getD {cols : List (List Int)} {j : Nat} (hj : j < cols.length) : cols.getD j [] ∈ cols := by
  rw [List.getD_eq_getElem?_getD, List.getElem?_eq_getElem hj]; exact List.getElem_mem hj
theorem mul_big {x y : Int} (hx : x.natAbs < 2 ^ 64) (hy : y.natAbs < 2 ^ 20000) : (x * y).natAbs ≤ 2 ^ 20064 := by
  rw [Int.natAbs_mul]
  have e : (2 : Nat) ^ 64 * 2 ^ 20000 = 2 ^ 20064 := by rw [← Nat.pow_add]
  rw [← e]
  exact Nat.mul_le_mul (Nat.le_of_lt hx) (Nat.le_of_lt hy)
theorem dot_big {m : Nat} {u v : Sx.Vec} (hm : m ≤ 1000) (h : ∀ i, i < m → (u i * v i).natAbs ≤ 2 ^ 20064) : (Sx.dot m u v).natAbs < 2 ^ 20100 := by
  have h1 : (Sx.dot m u v).natAbs ≤ m * 2 ^ 20064 := Sx.sm_abs h
  have h2 : m * 2 ^ 20064 ≤ 2 ^ 10 * 2 ^ 20064 := Nat.mul_le_mul_right _ (by omega)
  rw [← Nat.pow_add] at h2
  have h3 : (2 : Nat) ^ (10 + 20064) < 2 ^ 20100 := Nat.pow_lt_pow_right (by omega) (by omega)
  omega
theorem dot_bigS {m : Nat} {r s : List Int} (hr : r.length = m) (hs : s.length = m) (hm : m ≤ 1000) (h1 : Small r) (h2 : Big s) : (Sx.dot m (Sx.fn r) (Sx.fn s)).natAbs < 2 ^ 20100 :=
  dot_big hm fun i hi => mul_big (h1 _ (Sx.fn_mem (by omega))) (h2 _ (Sx.fn_mem (by omega)))
theorem dot_bigT {m : Nat} {r s : List Int} (hr : r.length = m) (hs : s.length = m) (hm : m ≤ 1000) (h1 : Big r) (h2 : Small s) : (Sx.dot m (Sx.fn r) (Sx.fn s)).natAbs < 2 ^ 20100 :=
  dot_big hm fun i hi => by rw [Int.mul_comm]; exact mul_big (h2 _ (Sx.fn_mem (by omega))) (h1 _ (Sx.fn_mem (by omega)))
theorem Big.tail {s : Int} {r : List Int} (h : Big (s :: r)) : Big r := fun x hx => h x (List.mem_cons_of_mem _ hx)
theorem big_lt {x : Int} (h : x.natAbs < 2 ^ 20000) : x.natAbs < 2 ^ 20100 := Nat.lt_trans h (Nat.pow_lt_pow_right (by omega) (by omega))
def w_law_prices_ok : PW := fun ds C => ∃ p q' n cols goal c q pr, ds = [colsD p cols, numsD q' c, rowD goal, .tup [.int q, rowD pr]] ∧ CC n cols goal c ∧ PriceOk n cols c q pr ∧ C (.bl true)
def r_law_prices_ok : DS := (dSeq (dIfS (dOr (dNot (dTest (dIsi "tuple" (dVar 3)))) (dOr (dTest (dOp dNeD (dCB dLen (dCons (dVar 3) dNil)) (dC (.int 2)))) (dOr (dNot (dTest (dCallP 1 w_law_is_number (dCons (dOp dIx (dVar 3) (dC (.int 0))) dNil)))) (dTest (dOp (rIB fun i j => decide (i < j)) (dOp dIx (dVar 3) (dC (.int 0))) (dC (.int 1))))))) (dRet (dC (.bl false))) dNext) (dSeq (dIfS (dOr (dNot (dTest (dCallP 2 w_law_is_row (dCons (dOp dIx (dVar 3) (dC (.int 1))) (dCons (dCB dLen (dCons (dVar 2) dNil)) dNil))))) (dTest (dOp dNeD (dCallP 1 w_law_divisor (dCons (dOp dbAdd (dTup (dCons (dOp dIx (dVar 3) (dC (.int 0))) dNil)) (dOp dIx (dVar 3) (dC (.int 1)))) dNil)) (dC (.int 1))))) (dRet (dC (.bl false))) dNext) (dRet (dOp dEqD (dOfN (dLcN (diZipS (dCons (dVar 0) (dCons (dVar 1) dNil))) (dgTup 2 (dgCons (dgN 4) (dgCons (dgN 5) dgNil))) [4, 5] (dTest (dOp (rIB fun i j => decide (j < i)) (dCallP 2 w_law_dot (dCons (dOp dIx (dVar 3) (dC (.int 1))) (dCons (dVar 4) dNil))) (dOp dbMul (dOp dIx (dVar 3) (dC (.int 0))) (dVar 5)))) (dC (.int 1)) [4, 5])) (dLst dNil)))))
theorem body_law_prices_ok : ∀ (as : List D) (C : D → Prop), as.length = 4 → w_law_prices_ok as C → r_law_prices_ok (env0 (["columns", "costs", "goal", "thing", "column", "cost"].length - 4) as) { nx := fun _ => C .non, rt := fun d _ => C d } := by
  rintro as C _ ⟨p, q', n, cols, goal, c, q, pr, rfl, cc, ok, h⟩
  have cg := cc.cg
  have n60 := cg.ok.n60
  have few := cg.ok.few
  have glen := cg.glen
  have plen := ok.len
  have q1 := ok.q1
  have ix0 : ∀ env : Lf.Env, env[3]? = some (some (.d (.tup [.int q, rowD pr]))) → Ev (dOp dIx (dVar 3) (dC (.int 0))) env (.int q) := fun env he => ev_op (ev_var he) ev_c fun C k => rv_ixT (xs := [.int q, rowD pr]) (i := ((0 : Nat) : Int)) (atI_nat rfl) k
  have ix1 : ∀ env : Lf.Env, env[3]? = some (some (.d (.tup [.int q, rowD pr]))) → Ev (dOp dIx (dVar 3) (dC (.int 1))) env (rowD pr) := fun env he => ev_op (ev_var he) ev_c fun C k => rv_ixT (xs := [.int q, rowD pr]) (i := ((1 : Nat) : Int)) (atI_nat rfl) k
  refine st_seq (st_if1 (p := false) (et_or (p := false) (q := false) (et_not (p := true) (et_test (ev_isi (ev_var (by rfl)) (kit_tup _)))) fun _ => et_or (p := false) (q := false) ?_ fun _ => et_or (p := false) (q := false) ?_ fun _ => ?_) (fun e => nomatch e) fun _ => ?_)
  · exact et_test (ev_op (ev_cb (ea_cons (ev_var (by rfl)) ea_nil) fun C k => cv_len rfl k) ev_c fun C k => rv_ne flat_int.shp flat_int.shp (by rw [dEq_int]; rfl) k)
  · exact et_not (p := true) (et_test (ev_call (ea_cons (ix0 _ (by rfl)) ea_nil) rfl fun C k => ⟨_, rfl, k⟩))
  · exact et_test (ev_op (ix0 _ (by rfl)) ev_c fun C k => rv_ib (decide_eq_false (by omega)) k)
  simp only [dNext]
  refine st_seq (st_if1 (p := false) (et_or (p := false) (q := false) ?_ fun _ => ?_) (fun e => nomatch e) fun _ => ?_)
  · refine et_not (p := true) (et_test (ev_call (ea_cons (ix1 _ (by rfl)) (ea_cons (ev_cb (ea_cons (ev_var (by rfl)) ea_nil) fun C k => cv_len (xs := goal.map .int) rfl k) ea_nil)) rfl fun C k => ⟨pr, by rw [List.length_map, glen, plen], by omega, k⟩))
  · exact et_test (ev_op (ev_call (ea_cons (ev_op (ev_tup (ea_cons (ix0 _ (by rfl)) ea_nil) (by show 1 ≤ 100000; decide)) (ix1 _ (by rfl)) fun C k => rv_addT (by simp; omega) k) ea_nil) rfl fun C k => ⟨q :: pr, rfl, by simp; omega, by rw [ok.gcd]; exact k⟩) ev_c fun C k => rv_ne flat_int.shp flat_int.shp (by rw [dEq_int]; rfl) k)
  simp only [dNext]
  refine st_ret1 (d := .bl true) ?_ h
  refine ev_op (x := .lst []) (y := .lst []) ?_ (ev_lst ea_nil (by decide)) fun C k => rv_eqNil k
  refine ev_lc0 (xs := (List.range cols.length).map fun j => .tup [rowD (cols.getD j []), .int (Sx.fn c j)]) ?_ (by simp; omega) (by simp) (by rfl) fun x hx => ?_
  · rw [← cc_zip cc.clen]
    exact ei_zip (p := p) (q := q') (ea_cons (ev_var (by rfl)) (ea_cons (ev_var (by rfl)) ea_nil)) cols_seq nums_seq
  · obtain ⟨j, hj, rfl⟩ := List.mem_map.mp hx
    have hj := List.mem_range.mp hj
    have cl := colF_len cg.ok hj
    have cm := cols_small cg hj
    have col := ok.col j hj
    have clen := cc.clen
    have sc := cc.csm _ (Sx.fn_mem (r := c) (i := j) (by omega))
    refine ⟨_, tg_two (by rfl) (by rfl), et_test (ev_op (x := .int (Sx.dot n (Sx.fn pr) (colF cols j))) (y := .int (q * Sx.fn c j)) (ev_call (ea_cons (ix1 _ (by rfl)) (ea_cons (ev_var (by rfl)) ea_nil)) rfl fun C k => ⟨_, _, true, true, pr, cols.getD j [], rfl, rfl, rfl, by omega, by omega, .inr cm, by rw [plen]; exact k⟩) (ev_op (ix0 _ (by rfl)) (ev_var (by rfl)) fun C k => rv_mul (.inl (.inr ⟨by omega, by omega⟩)) rfl k) fun C k => rv_ib (decide_eq_false (by omega)) k)⟩
def w_law_endless_ok : PW := fun ds C => ∃ p q' n cols goal c e, ds = [colsD p cols, numsD q' c, rowD goal, rowD e] ∧ CC n cols goal c ∧ EndOk n cols c e ∧ C (.bl true)
def r_law_endless_ok : DS := (dSeq (dIfS (dOr (dNot (dTest (dCallP 2 w_law_is_row (dCons (dVar 3) (dCons (dCB dLen (dCons (dVar 0) dNil)) dNil))))) (dOr (dTest (dOp dNeD (dOfN (dLcN (diSeq (dVar 3)) (dgN 7) [7] (dTest (dOp (rIB fun i j => decide (i < j)) (dVar 7) (dC (.int 0)))) (dC (.int 1)) [7])) (dLst dNil))) (dTest (dOp dNeD (dCallP 1 w_law_divisor (dCons (dVar 3) dNil)) (dC (.int 1)))))) (dRet (dC (.bl false))) dNext) (dSeq (dAsg (dOp dbMul (dTup (dCons (dC (.int 0)) dNil)) (dCB dLen (dCons (dVar 2) dNil))) (dgN 4)) (dSeq (dFor (diZipS (dCons (dVar 0) (dCons (dVar 3) dNil))) (dgTup 2 (dgCons (dgN 5) (dgCons (dgN 6) dgNil))) (dAsg (dCallP 2 w_law_sum (dCons (dVar 4) (dCons (dCallP 2 w_law_times (dCons (dVar 5) (dCons (dVar 6) dNil))) dNil))) (dgN 4))) (dRet (dAndV (dOp dEqD (dOfN (dLcN (diSeq (dVar 4)) (dgN 7) [7] (dTest (dOp dNeD (dVar 7) (dC (.int 0)))) (dC (.int 1)) [7])) (dLst dNil)) (dOp (rIB fun i j => decide (i < j)) (dCallP 2 w_law_dot (dCons (dVar 3) (dCons (dVar 1) dNil))) (dC (.int 0))))))))
theorem body_law_endless_ok : ∀ (as : List D) (C : D → Prop), as.length = 4 → w_law_endless_ok as C → r_law_endless_ok (env0 (["columns", "costs", "goal", "thing", "made_here", "column", "count", "item"].length - 4) as) { nx := fun _ => C .non, rt := fun d _ => C d } := by
  rintro as C _ ⟨p, q', n, cols, goal, c, e, rfl, cc, ok, h⟩
  have cg := cc.cg
  have n1 := cg.ok.n1
  have n60 := cg.ok.n60
  have few := cg.ok.few
  have glen := cg.glen
  have el := ok.len
  have clen := cc.clen
  have neg := ok.neg
  have lg := rowD_len goal
  have le := rowD_len e
  have lcl : (cols.map rowD).length = cols.length := List.length_map ..
  refine st_seq (st_if1 (p := false) (et_or (p := false) (q := false) ?_ fun _ => et_or (p := false) (q := false) ?_ fun _ => ?_) (fun e => nomatch e) fun _ => ?_)
  · refine et_not (p := true) (et_test (ev_call (ea_cons (ev_var (by rfl)) (ea_cons (ev_cb (ea_cons (ev_var (by rfl)) ea_nil) fun C k => cv_len cols_items k) ea_nil)) rfl fun C k => ⟨e, by rw [lcl, el], by omega, k⟩))
  · refine et_test (ev_op (x := .lst []) (y := .lst []) ?_ (ev_lst ea_nil (by decide)) fun C k => rv_neNil k)
    refine ev_lc0 (ei_seq (ev_var (by rfl)) rfl) (by omega) (by simp) (by rfl) fun x hx => ?_
    obtain ⟨v, hv, rfl⟩ := List.mem_map.mp hx
    have := ok.nn v hv
    exact ⟨_, tg_n (by rfl), et_test (ev_op (ev_var (by rfl)) ev_c fun C k => rv_ib (decide_eq_false (by omega)) k)⟩
  · exact et_test (ev_op (ev_call (ea_cons (ev_var (by rfl)) ea_nil) rfl fun C k => ⟨e, rfl, by omega, by rw [ok.gcd]; exact k⟩) ev_c fun C k => rv_ne flat_int.shp flat_int.shp (by rw [dEq_int]; rfl) k)
  simp only [dNext]
  refine st_seq (st_asg1 (d := rowD (mk n fun _ => 0)) (ev_op (ev_tup (ea_cons ev_c ea_nil) (by decide)) (ev_cb (ea_cons (ev_var (by rfl)) ea_nil) fun C k => cv_len (xs := goal.map .int) rfl k) fun C k => rv_mulT (by simp) (by omega) (by omega) (by decide) (by
    have e : ((goal.map D.int).length : Int).toNat = n := by omega
    rw [e, rep_zero]; exact k)) (by rfl) ?_)
  dsimp only
  refine st_seq (st_for (xs := (List.range cols.length).map fun j => .tup [rowD (cols.getD j []), .int (Sx.fn e j)]) (fun i e1 => ∃ t u : Option D, e1 = [some (.d (colsD p cols)), some (.d (numsD q' c)), some (.d (rowD goal)), some (.d (rowD e)), some (.d (rowD (mk n fun k => Sx.sm i fun j => Sx.fn e j * colF cols j k))), t.map .d, u.map .d, none]) ?_ ⟨none, none, by rfl⟩ ?_ ?_)
  · rw [← cc_zip el]
    exact ei_zip (p := p) (q := true) (ea_cons (ev_var (by rfl)) (ea_cons (ev_var (by rfl)) ea_nil)) cols_seq rfl
  · rintro i x e1 hx ⟨t, u, rfl⟩
    have hi : i < cols.length := by
      have := (List.getElem?_eq_some_iff.mp hx).1
      simpa using this
    have ex : x = .tup [rowD (cols.getD i []), .int (Sx.fn e i)] := by
      rw [List.getElem?_map, List.getElem?_range hi] at hx
      simpa using hx.symm
    subst ex
    have hrl := colF_len cg.ok hi
    have hrs := cols_small cg hi
    refine ⟨_, tg_two (by cases t <;> rfl) (by cases t <;> cases u <;> rfl), ?_⟩
    refine st_asg1 (ev_call (ea_cons (ev_var (by rfl)) (ea_cons (ev_call (ea_cons (ev_var (by rfl)) (ea_cons (ev_var (by rfl)) ea_nil)) rfl fun C k => ⟨cols.getD i [], _, rfl, by omega, hrs, k⟩) ea_nil)) rfl fun C k => ⟨_, _, rfl, by rw [mk_len]; omega, k⟩) (by rfl) ⟨some (rowD (cols.getD i [])), some (.int (Sx.fn e i)), ?_⟩
    have e2 : List.zipWith (· + ·) (mk n fun k => Sx.sm i fun j => Sx.fn e j * colF cols j k) ((cols.getD i []).map (· * Sx.fn e i)) = mk n fun k => Sx.sm (i + 1) fun j => Sx.fn e j * colF cols j k := by
      rw [mk_fn hrl, mk_mul, mk_add]
      refine mk_congr fun k _ => ?_
      show _ = (Sx.sm i fun j => Sx.fn e j * colF cols j k) + Sx.fn e i * colF cols i k
      rw [Int.mul_comm]; rfl
    rw [e2]
    rfl
  · rintro e1 ⟨t, u, rfl⟩
    rw [List.length_map, List.length_range]
    have e3 : (mk n fun k => Sx.sm cols.length fun j => Sx.fn e j * colF cols j k) = mk n fun _ => 0 := mk_congr ok.sum
    rw [e3]
    dsimp only
    refine st_ret1 (d := .bl true) ?_ h
    refine ev_andV (p := true) (q := true) ?_ fun _ => ?_
    · refine ev_op (x := .lst []) (y := .lst []) ?_ (ev_lst ea_nil (by decide)) fun C k => rv_eqNil k
      refine ev_lc0 (ei_seq (ev_var (by rfl)) rfl) (by rw [List.length_map, mk_len]; omega) (by simp) (by cases t <;> cases u <;> rfl) fun x hx => ?_
      obtain ⟨v, hv, rfl⟩ := List.mem_map.mp hx
      obtain ⟨_, _, rfl⟩ := List.mem_map.mp hv
      exact ⟨_, tg_n (by cases t <;> cases u <;> rfl), et_test (ev_op (ev_var (by cases t <;> cases u <;> rfl)) ev_c fun C k => rv_ne flat_int.shp flat_int.shp (by rw [dEq_int]; rfl) k)⟩
    · exact ev_op (ev_call (ea_cons (ev_var (by rfl)) (ea_cons (ev_var (by rfl)) ea_nil)) rfl fun C k => ⟨_, _, true, q', e, c, rfl, rfl, nums_seq, by omega, by omega, .inr cc.csm, k⟩) ev_c fun C k => rv_ib (decide_eq_true neg) k
def noneD (w : List Int) : D := .tup [.str "none", rowD w]
def endlD (e : List Int) : D := .tup [.str "endless", rowD e]
def leasD (s : Int) (cnt : List Int) (q : Int) (pr : List Int) : D := .tup [.str "least", .tup [.int s, rowD cnt], .tup [.int q, rowD pr]]
def w_law_least_ok : PW := fun ds C => ∃ p q' n cols goal c d, ds = [colsD p cols, numsD q' c, rowD goal, d] ∧ CC n cols goal c ∧ ((∃ w, DamOk n cols goal w ∧ d = noneD w) ∨ ∃ s cnt q pr, LeastOk n cols goal c s cnt q pr ∧ d = leasD s cnt q pr) ∧ C (.bl true)
def r_law_least_ok : DS := (dSeq (dIfS (dOr (dNot (dTest (dIsi "tuple" (dVar 3)))) (dOr (dTest (dOp (rIB fun i j => decide (i < j)) (dCB dLen (dCons (dVar 3) dNil)) (dC (.int 2)))) (dNot (dTest (dIsi "str" (dOp dIx (dVar 3) (dC (.int 0)))))))) (dRet (dC (.bl false))) dNext) (dSeq (dIfS (dTest (dOp dEqD (dOp dIx (dVar 3) (dC (.int 0))) (dC (.str "none")))) (dRet (dAndV (dOp dEqD (dCB dLen (dCons (dVar 3) dNil)) (dC (.int 2))) (dCallP 3 w_law_dam_ok (dCons (dVar 0) (dCons (dVar 2) (dCons (dOp dIx (dVar 3) (dC (.int 1))) dNil)))))) dNext) (dSeq (dIfS (dOr (dTest (dOp dNeD (dOp dIx (dVar 3) (dC (.int 0))) (dC (.str "least")))) (dTest (dOp dNeD (dCB dLen (dCons (dVar 3) dNil)) (dC (.int 3))))) (dRet (dC (.bl false))) dNext) (dSeq (dIfS (dOr (dNot (dTest (dCallP 3 w_law_deal_ok (dCons (dVar 0) (dCons (dVar 2) (dCons (dOp dIx (dVar 3) (dC (.int 1))) dNil)))))) (dNot (dTest (dCallP 4 w_law_prices_ok (dCons (dVar 0) (dCons (dVar 1) (dCons (dVar 2) (dCons (dOp dIx (dVar 3) (dC (.int 2))) dNil)))))))) (dRet (dC (.bl false))) dNext) (dRet (dOp dEqD (dOp dbMul (dCallP 2 w_law_dot (dCons (dVar 1) (dCons (dOp dIx (dOp dIx (dVar 3) (dC (.int 1))) (dC (.int 1))) dNil))) (dOp dIx (dOp dIx (dVar 3) (dC (.int 2))) (dC (.int 0)))) (dOp dbMul (dCallP 2 w_law_dot (dCons (dOp dIx (dOp dIx (dVar 3) (dC (.int 2))) (dC (.int 1))) (dCons (dVar 2) dNil))) (dOp dIx (dOp dIx (dVar 3) (dC (.int 1))) (dC (.int 0))))))))))
theorem rv_eqS {a b : Str} {p : Bool} {C : D → Prop} (ha : PyData.strOk a = true) (hb : PyData.strOk b = true) (e : decide (a = b) = p) (h : C (.bl p)) : dEqD (.str a) (.str b) C := rv_eq (flat_str ha).shp (flat_str hb).shp (by rw [dEq_str]; exact e) h
theorem rv_neS {a b : Str} {p : Bool} {C : D → Prop} (ha : PyData.strOk a = true) (hb : PyData.strOk b = true) (e : (!decide (a = b)) = p) (h : C (.bl p)) : dNeD (.str a) (.str b) C := rv_ne (flat_str ha).shp (flat_str hb).shp (by rw [dEq_str]; exact e) h
theorem so_none : PyData.strOk ("none" : Str) = true := by decide +kernel
theorem so_endless : PyData.strOk ("endless" : Str) = true := by decide +kernel
theorem so_least : PyData.strOk ("least" : Str) = true := by decide +kernel
theorem body_law_least_ok : ∀ (as : List D) (C : D → Prop), as.length = 4 → w_law_least_ok as C → r_law_least_ok (env0 (["columns", "costs", "goal", "thing"].length - 4) as) { nx := fun _ => C .non, rt := fun d _ => C d } := by
  rintro as C _ ⟨p, q', n, cols, goal, c, d, rfl, cc, hd, h⟩
  have cg := cc.cg
  have n60 := cg.ok.n60
  have few := cg.ok.few
  have clen := cc.clen
  have glen := cg.glen
  rcases hd with ⟨w, dk, rfl⟩ | ⟨s, cnt, q, pr, ok, rfl⟩
  · refine st_seq (st_if1 (p := false) (et_or (p := false) (q := false) (et_not (p := true) (et_test (ev_isi (ev_var (by rfl)) (kit_tup _)))) fun _ => et_or (p := false) (q := false) ?_ fun _ => ?_) (fun e => nomatch e) fun _ => ?_)
    · exact et_test (ev_op (ev_cb (ea_cons (ev_var (d := noneD w) (by rfl)) ea_nil) fun C k => cv_len rfl k) ev_c fun C k => rv_ib (by rfl) k)
    · exact et_not (p := true) (et_test (ev_isi (ev_op (ev_var (d := noneD w) (by rfl)) ev_c fun C k => rv_ixT (i := ((0 : Nat) : Int)) (atI_nat rfl) k) kit_str))
    simp only [dNext]
    refine st_seq (st_if1 (p := true) (et_test (ev_op (ev_op (ev_var (d := noneD w) (by rfl)) ev_c fun C k => rv_ixT (i := ((0 : Nat) : Int)) (atI_nat rfl) k) ev_c fun C k => rv_eqS so_none so_none (by decide) k)) (fun _ => ?_) fun e => nomatch e)
    refine st_ret1 (d := .bl true) ?_ h
    refine ev_andV (p := true) (q := true) ?_ fun _ => ?_
    · exact ev_op (ev_cb (ea_cons (ev_var (d := noneD w) (by rfl)) ea_nil) fun C k => cv_len rfl k) ev_c fun C k => rv_eq flat_int.shp flat_int.shp (by rw [dEq_int]; rfl) k
    · exact ev_call (ea_cons (ev_var (by rfl)) (ea_cons (ev_var (by rfl)) (ea_cons (ev_op (ev_var (d := noneD w) (by rfl)) ev_c fun C k => rv_ixT (i := ((1 : Nat) : Int)) (atI_nat rfl) k) ea_nil))) rfl fun C k => ⟨p, n, cols, goal, w, rfl, cg, dk, k⟩
  · have ix : ∀ (i : Nat) (x : D), [D.str "least", .tup [.int s, rowD cnt], .tup [.int q, rowD pr]][i]? = some x → Ev (dOp dIx (dVar 3) (dC (.int (i : Nat)))) [some (.d (colsD p cols)), some (.d (numsD q' c)), some (.d (rowD goal)), some (.d (leasD s cnt q pr))] x := fun i x hi => ev_op (ev_var (d := leasD s cnt q pr) (by rfl)) ev_c fun C k => rv_ixT (atI_nat hi) k
    have ix2 : ∀ (i j : Nat) (xs : List D) (y : D), [D.str "least", .tup [.int s, rowD cnt], .tup [.int q, rowD pr]][i]? = some (.tup xs) → xs[j]? = some y → Ev (dOp dIx (dOp dIx (dVar 3) (dC (.int (i : Nat)))) (dC (.int (j : Nat)))) [some (.d (colsD p cols)), some (.d (numsD q' c)), some (.d (rowD goal)), some (.d (leasD s cnt q pr))] y := fun i j xs y hi hj => ev_op (ix i _ hi) ev_c fun C k => rv_ixT (atI_nat hj) k
    have plen := ok.pri.len
    have dlen := ok.deal.len
    refine st_seq (st_if1 (p := false) (et_or (p := false) (q := false) (et_not (p := true) (et_test (ev_isi (ev_var (by rfl)) (kit_tup _)))) fun _ => et_or (p := false) (q := false) ?_ fun _ => ?_) (fun e => nomatch e) fun _ => ?_)
    · exact et_test (ev_op (ev_cb (ea_cons (ev_var (d := leasD s cnt q pr) (by rfl)) ea_nil) fun C k => cv_len rfl k) ev_c fun C k => rv_ib (by rfl) k)
    · exact et_not (p := true) (et_test (ev_isi (ix 0 _ rfl) kit_str))
    simp only [dNext]
    refine st_seq (st_if1 (p := false) (et_test (ev_op (ix 0 _ rfl) ev_c fun C k => rv_eqS so_least so_none (by decide) k)) (fun e => nomatch e) fun _ => ?_)
    simp only [dNext]
    refine st_seq (st_if1 (p := false) (et_or (p := false) (q := false) ?_ fun _ => ?_) (fun e => nomatch e) fun _ => ?_)
    · exact et_test (ev_op (ix 0 _ rfl) ev_c fun C k => rv_neS so_least so_least (by decide) k)
    · exact et_test (ev_op (ev_cb (ea_cons (ev_var (d := leasD s cnt q pr) (by rfl)) ea_nil) fun C k => cv_len rfl k) ev_c fun C k => rv_ne flat_int.shp flat_int.shp (by rw [dEq_int]; rfl) k)
    simp only [dNext]
    refine st_seq (st_if1 (p := false) (et_or (p := false) (q := false) ?_ fun _ => ?_) (fun e => nomatch e) fun _ => ?_)
    · exact et_not (p := true) (et_test (ev_call (ea_cons (ev_var (by rfl)) (ea_cons (ev_var (by rfl)) (ea_cons (ix 1 _ rfl) ea_nil))) rfl fun C k => ⟨p, n, cols, goal, s, cnt, rfl, cg, ok.deal, k⟩))
    · exact et_not (p := true) (et_test (ev_call (ea_cons (ev_var (by rfl)) (ea_cons (ev_var (by rfl)) (ea_cons (ev_var (by rfl)) (ea_cons (ix 2 _ rfl) ea_nil)))) rfl fun C k => ⟨p, q', n, cols, goal, c, q, pr, rfl, cc, ok.pri, k⟩))
    simp only [dNext]
    refine st_ret1 (d := .bl true) ?_ h
    have b1 : (Sx.dot cols.length (Sx.fn c) (Sx.fn cnt)).natAbs < 2 ^ 20100 := dot_bigS clen dlen (by omega) cc.csm ok.bs.tail
    have b2 : (Sx.dot n (Sx.fn pr) (Sx.fn goal)).natAbs < 2 ^ 20100 := dot_bigT plen glen (by omega) ok.bq.tail cg.gsm
    have b3 := big_lt (ok.bq q List.mem_cons_self)
    have b4 := big_lt (ok.bs s List.mem_cons_self)
    refine ev_op (x := .int (Sx.dot cols.length (Sx.fn c) (Sx.fn cnt) * q)) (y := .int (Sx.dot n (Sx.fn pr) (Sx.fn goal) * s)) ?_ ?_ fun C k => rv_eq flat_int.shp flat_int.shp (by rw [dEq_int]; exact decide_eq_true ok.eq) k
    · exact ev_op (ev_call (ea_cons (ev_var (by rfl)) (ea_cons (ix2 1 1 _ _ rfl rfl) ea_nil)) rfl fun C k => ⟨_, _, q', true, c, cnt, rfl, nums_seq, rfl, by omega, by omega, .inl cc.csm, by rw [clen]; exact k⟩) (ix2 2 0 _ _ rfl rfl) fun C k => rv_mul (.inr (wide_mul b1 b3 (by decide) (by decide) (by decide))) rfl k
    · exact ev_op (ev_call (ea_cons (ix2 2 1 _ _ rfl rfl) (ea_cons (ev_var (by rfl)) ea_nil)) rfl fun C k => ⟨_, _, true, true, pr, goal, rfl, rfl, rfl, by omega, by omega, .inr cg.gsm, by rw [plen]; exact k⟩) (ix2 1 0 _ _ rfl rfl) fun C k => rv_mul (.inr (wide_mul b2 b4 (by decide) (by decide) (by decide))) rfl k
def w_law_costs : OW := fun w ds K => w = drw ∧ ∃ cols : List (List Int), ds = [.lst (cols.map rowD)] ∧ cols.length ≤ 1000 ∧ ∀ c : List Int, c.length = cols.length → (∀ x ∈ c, -5 ≤ x ∧ x ≤ 12) → K (.lst (c.map .int)) drw
def r_law_costs : DS := (dSeq (dAsg (dCallO 2 w_law_pick 0 (dCons (dLst (dCons (dC (.int 0)) (dCons (dC (.int 0)) (dCons (dC (.int 0)) (dCons (dC (.int 1)) (dCons (dC (.int 5)) dNil)))))) dNil)) (dgN 2)) (dRet (dOfN (dLcN (diSeq (dVar 1)) (dgN 3) [3] dYes (dOp (rII fun i j => i - j) (dCallO 2 w_law_take 0 (dCons (dC (.int 12)) dNil)) (dVar 2)) [3]))))
theorem body_law_costs : ∀ (w : Ow) (as : List D) (C : D → Ow → Prop), as.length + 1 = 2 → w_law_costs w as C →
    r_law_costs (some (.o w) :: env0 (["draw", "columns", "low", "column"].length - 2) as) { nx := fun env' => ∃ w', env'[0]? = some (some (.o w')) ∧ C .non w', rt := fun d env' => ∃ w', env'[0]? = some (some (.o w')) ∧ C d w' } := by
  rintro w as C _ ⟨rfl, cols, rfl, hm, h⟩
  have l : (cols.map rowD).length = cols.length := List.length_map ..
  refine st_seq (st_asg (S := fun d => ∃ x ∈ ([0, 0, 0, 1, 5] : List Int), d = .int x) (es_pick (ns := [0, 0, 0, 1, 5]) (by rfl) (ev_lst (ea_cons ev_c (ea_cons ev_c (ea_cons ev_c (ea_cons ev_c (ea_cons ev_c ea_nil))))) (by decide)) (by decide) (by decide)) (by rfl) ?_)
  rintro d ⟨low, hlow, rfl⟩
  have lb : 0 ≤ low ∧ low ≤ 5 := by
    simp at hlow
    omega
  refine st_ret (S := fun d => ∃ c : List Int, d = .lst (c.map .int) ∧ c.length = cols.length ∧ ∀ x ∈ c, -5 ≤ x ∧ x ≤ 12) (fun C k => es_lc (xs := cols.map rowD) (fun _ d => ∃ x, d = .int x ∧ -5 ≤ x ∧ x ≤ 12) (ei_seq (ev_var (by rfl)) rfl) (by omega) (by simp) (by rfl) (fun i x hx => ⟨_, tg_n (by rfl), ?_⟩) _ ?_) ?_
  · exact es_op (A := fun d => ∃ k : Int, 0 ≤ k ∧ k < 12 ∧ d = .int k) (B := fun d => d = .int low) (take_c (by rfl) (by decide) (by decide)) (ev_var (by rfl)) fun x y ⟨k, k0, k1, ex⟩ ey C q => by subst ex ey; exact rv_ii rfl (q _ ⟨_, rfl, by omega, by omega⟩)
  · rintro d ⟨ys, rfl, l2, hy⟩
    obtain ⟨c, rfl, hc⟩ := ints_ex (ys := ys) fun y hy' => let ⟨t, ht⟩ := List.mem_iff_getElem?.mp hy'; hy t y ht
    exact k _ ⟨c, rfl, by rw [List.length_map] at l2; omega, hc⟩
  · rintro d ⟨c, rfl, hc, hb⟩
    exact ⟨_, by rfl, h c hc hb⟩
section
variable {P : Program} {w : World} {K : PySem.W.Frag} {mg : Str → Option Value} {base : Heap}
theorem sc_law_prices_ok : FnScope ["columns", "costs", "goal", "thing", "column", "cost"] ["columns", "costs", "goal", "thing"] (defScope (top 58)) := ⟨rfl, rfl, rfl, by decide +kernel, rfl, by decide +kernel, by decide +kernel⟩
theorem ok_law_prices_ok (T : Top P w K mg) : Fn P w K mg base 3 "_law_prices_ok" ["columns", "costs", "goal", "thing"] (PSp 4 w_law_prices_ok) := by
  obtain ⟨fd, F⟩ := T.fn 44 (x := "_law_prices_ok") (st := (top 58)) rfl
  have sc := sc_law_prices_ok
  have tm : ∀ x, x ∈ frees → mg x = none := fun x hx => T.free x (mem_free hx)
  refine ⟨⟨fd, F.ok sc (fun vs H Q E h => h.len) (fun cdv A outer s H vs Q E hr h => ?d), F.bindsN fun _ _ _ _ _ _ us hl => match us, hl with | [_, _, _, _], _ => rfl⟩, T.glo "_law_prices_ok" (mem_glo (by decide +kernel)), F.kp⟩
  exact ⟨_, PSs.nox (pss_cons (ps_if (PW.pt (pw_or (pt_not (pt_val (pe_callB (show CallR _ _ (rIsi K) from call_isi) (by rfl) (tm "isinstance" (by decide +kernel)) (by decide +kernel) (pa_cons (pv 3) (pa_cons (pe_bltn (v := .ty "tuple") (by rfl) (tm "tuple" (by decide +kernel)) (by decide +kernel) rfl) pa_nil))))) (pw_or (pt_cmpR (show OpR _ _ (rNeD K) from op_neD hr.units) (pe_callB (show CallR _ _ (rLenQ K) from cl_len) (by rfl) (tm "len" (by decide +kernel)) (by decide +kernel) (pa_cons (pv 3) pa_nil)) pe_int (nomark _)) (pw_or (pt_not (pt_val (pe_f (ok_law_is_number T) (hr.mono (by decide)) rfl (pa_cons (pe_ix (show IxR _ (fun x y H Q => rIxL K x y H Q ∨ rIxT K x y H Q) from ix_any) (pv 3) pe_int (fun _ _ => rfl)) pa_nil)))) (pw_or1 (pt_cmpR op_lt (pe_ix (show IxR _ (fun x y H Q => rIxL K x y H Q ∨ rIxT K x y H Q) from ix_any) (pv 3) pe_int (fun _ _ => rfl)) pe_int (nomark _))))))) (pss_one (ps_ret pe_bl)) pss_nil) (pss_cons (ps_if (PW.pt (pw_or (pt_not (pt_val (pe_f (ok_law_is_row T) hr rfl (pa_cons (pe_ix (show IxR _ (fun x y H Q => rIxL K x y H Q ∨ rIxT K x y H Q) from ix_any) (pv 3) pe_int (fun _ _ => rfl)) (pa_cons (pe_callB (show CallR _ _ (rLenQ K) from cl_len) (by rfl) (tm "len" (by decide +kernel)) (by decide +kernel) (pa_cons (pv 2) pa_nil)) pa_nil))))) (pw_or1 (pt_cmpR (show OpR _ _ (rNeD K) from op_neD hr.units) (pe_f (ok_law_divisor T) (hr.mono (by decide)) rfl (pa_cons (pe_op (show OpR _ _ (rbAdd K) from ob_add) (pe_tup (pa_cons (pe_ix (show IxR _ (fun x y H Q => rIxL K x y H Q ∨ rIxT K x y H Q) from ix_any) (pv 3) pe_int (fun _ _ => rfl)) pa_nil)) (pe_ix (show IxR _ (fun x y H Q => rIxL K x y H Q ∨ rIxT K x y H Q) from ix_any) (pv 3) pe_int (fun _ _ => rfl))) pa_nil)) pe_int (nomark _))))) (pss_one (ps_ret pe_bl)) pss_nil) (pss_one (ps_ret (pe_cmpR (show OpR _ _ (rEqD K) from op_eqD hr.units) (pe_lc (own := [("column", 4), ("cost", 5)]) (g := (gTup K 2 (gCons (gName 4) (gCons (gName 5) gNil)))) rfl sc.nd (pi_zipS rfl (tm "zip" (by decide +kernel)) (pa_cons (pv 0) (pa_cons (pv 1) pa_nil))) (blkOk_by (N := ["columns", "costs", "goal", "thing", "column", "cost"]) (sc := defScope (top 58)) (by decide +kernel)) (fun _ _ _ _ _ => (pg_tup (n := 2) rfl (pgs_cons (pg_name (i := 4) sc.nd rfl (by first | exact Or.inl rfl | exact Or.inr rfl)) (pgs_cons (pg_name (i := 5) sc.nd rfl (by first | exact Or.inl rfl | exact Or.inr rfl)) pgs_nil)))) (fun _ _ _ _ _ => (pts_one (pt_cmpR op_gt (pe_f (ok_law_dot T) (hr.mono (by decide)) rfl (pa_cons (pe_ix (show IxR _ (fun x y H Q => rIxL K x y H Q ∨ rIxT K x y H Q) from ix_any) (pv 3) pe_int (fun _ _ => rfl)) (pa_cons (pv 4) pa_nil))) (pe_op (show OpR _ _ (rbMul K) from ob_mul) (pe_ix (show IxR _ (fun x y H Q => rIxL K x y H Q ∨ rIxT K x y H Q) from ix_any) (pv 3) pe_int (fun _ _ => rfl)) (pv 5)) (nomark _)))) (fun _ _ _ _ _ => pe_int)) (pe_lst pa_nil) (nomark _)))))), ps_body h (ds := r_law_prices_ok) inferInstance body_law_prices_ok⟩
theorem sc_law_endless_ok : FnScope ["columns", "costs", "goal", "thing", "made_here", "column", "count", "item"] ["columns", "costs", "goal", "thing"] (defScope (top 59)) := ⟨rfl, rfl, rfl, by decide +kernel, rfl, by decide +kernel, by decide +kernel⟩
theorem ok_law_endless_ok (T : Top P w K mg) : Fn P w K mg base 3 "_law_endless_ok" ["columns", "costs", "goal", "thing"] (PSp 4 w_law_endless_ok) := by
  obtain ⟨fd, F⟩ := T.fn 45 (x := "_law_endless_ok") (st := (top 59)) rfl
  have sc := sc_law_endless_ok
  have tm : ∀ x, x ∈ frees → mg x = none := fun x hx => T.free x (mem_free hx)
  refine ⟨⟨fd, F.ok sc (fun vs H Q E h => h.len) (fun cdv A outer s H vs Q E hr h => ?d), F.bindsN fun _ _ _ _ _ _ us hl => match us, hl with | [_, _, _, _], _ => rfl⟩, T.glo "_law_endless_ok" (mem_glo (by decide +kernel)), F.kp⟩
  exact ⟨_, PSs.nox (pss_cons (ps_if (PW.pt (pw_or (pt_not (pt_val (pe_f (ok_law_is_row T) hr rfl (pa_cons (pv 3) (pa_cons (pe_callB (show CallR _ _ (rLenQ K) from cl_len) (by rfl) (tm "len" (by decide +kernel)) (by decide +kernel) (pa_cons (pv 0) pa_nil)) pa_nil))))) (pw_or (pt_cmpR (show OpR _ _ (rNeD K) from op_neD hr.units) (pe_lc (own := [("item", 7)]) (g := (gName 7)) rfl sc.nd (pi_seq (pv 3)) (blkOk_by (N := ["columns", "costs", "goal", "thing", "made_here", "column", "count", "item"]) (sc := defScope (top 59)) (by decide +kernel)) (fun _ _ _ _ _ => (pg_name (i := 7) sc.nd rfl (by first | exact Or.inl rfl | exact Or.inr rfl))) (fun _ _ _ _ _ => (pts_one (pt_cmpR op_lt (pv 7) pe_int (nomark _)))) (fun _ _ _ _ _ => pe_int)) (pe_lst pa_nil) (nomark _)) (pw_or1 (pt_cmpR (show OpR _ _ (rNeD K) from op_neD hr.units) (pe_f (ok_law_divisor T) (hr.mono (by decide)) rfl (pa_cons (pv 3) pa_nil)) pe_int (nomark _)))))) (pss_one (ps_ret pe_bl)) pss_nil) (pss_cons (ps_set (i := 4) sc.nd rfl (by first | exact Or.inl rfl | exact Or.inr rfl) (pe_op (show OpR _ _ (rbMul K) from ob_mul) (pe_tup (pa_cons pe_int pa_nil)) (pe_callB (show CallR _ _ (rLenQ K) from cl_len) (by rfl) (tm "len" (by decide +kernel)) (by decide +kernel) (pa_cons (pv 2) pa_nil)))) (pss_cons (ps_for PassesOwn.never rfl (pi_zipS rfl (tm "zip" (by decide +kernel)) (pa_cons (pv 0) (pa_cons (pv 3) pa_nil))) (pg_tup (n := 2) rfl (pgs_cons (pg_name (i := 5) sc.nd rfl (by first | exact Or.inl rfl | exact Or.inr rfl)) (pgs_cons (pg_name (i := 6) sc.nd rfl (by first | exact Or.inl rfl | exact Or.inr rfl)) pgs_nil))) (pss_one (ps_set (i := 4) sc.nd rfl (by first | exact Or.inl rfl | exact Or.inr rfl) (pe_f (ok_law_sum T) (hr.mono (by decide)) rfl (pa_cons (pv 4) (pa_cons (pe_f (ok_law_times T) (hr.mono (by decide)) rfl (pa_cons (pv 5) (pa_cons (pv 6) pa_nil))) pa_nil)))))) (pss_one (ps_ret (pe_and (pe_cmpR (show OpR _ _ (rEqD K) from op_eqD hr.units) (pe_lc (own := [("item", 7)]) (g := (gName 7)) rfl sc.nd (pi_seq (pv 4)) (blkOk_by (N := ["columns", "costs", "goal", "thing", "made_here", "column", "count", "item"]) (sc := defScope (top 59)) (by decide +kernel)) (fun _ _ _ _ _ => (pg_name (i := 7) sc.nd rfl (by first | exact Or.inl rfl | exact Or.inr rfl))) (fun _ _ _ _ _ => (pts_one (pt_cmpR (show OpR _ _ (rNeD K) from op_neD hr.units) (pv 7) pe_int (nomark _)))) (fun _ _ _ _ _ => pe_int)) (pe_lst pa_nil) (nomark _)) (pe_one (pe_cmpR op_lt (pe_f (ok_law_dot T) (hr.mono (by decide)) rfl (pa_cons (pv 3) (pa_cons (pv 1) pa_nil))) pe_int (nomark _))))))))), ps_body h (ds := r_law_endless_ok) inferInstance body_law_endless_ok⟩
theorem sc_law_least_ok : FnScope ["columns", "costs", "goal", "thing"] ["columns", "costs", "goal", "thing"] (defScope (top 60)) := ⟨rfl, rfl, rfl, by decide +kernel, rfl, by decide +kernel, by decide +kernel⟩
theorem ok_law_least_ok (T : Top P w K mg) : Fn P w K mg base 4 "_law_least_ok" ["columns", "costs", "goal", "thing"] (PSp 4 w_law_least_ok) := by
  obtain ⟨fd, F⟩ := T.fn 46 (x := "_law_least_ok") (st := (top 60)) rfl
  have sc := sc_law_least_ok
  have tm : ∀ x, x ∈ frees → mg x = none := fun x hx => T.free x (mem_free hx)
  refine ⟨⟨fd, F.ok sc (fun vs H Q E h => h.len) (fun cdv A outer s H vs Q E hr h => ?d), F.bindsN fun _ _ _ _ _ _ us hl => match us, hl with | [_, _, _, _], _ => rfl⟩, T.glo "_law_least_ok" (mem_glo (by decide +kernel)), F.kp⟩
  exact ⟨_, PSs.nox (pss_cons (ps_if (PW.pt (pw_or (pt_not (pt_val (pe_callB (show CallR _ _ (rIsi K) from call_isi) (by rfl) (tm "isinstance" (by decide +kernel)) (by decide +kernel) (pa_cons (pv 3) (pa_cons (pe_bltn (v := .ty "tuple") (by rfl) (tm "tuple" (by decide +kernel)) (by decide +kernel) rfl) pa_nil))))) (pw_or (pt_cmpR op_lt (pe_callB (show CallR _ _ (rLenQ K) from cl_len) (by rfl) (tm "len" (by decide +kernel)) (by decide +kernel) (pa_cons (pv 3) pa_nil)) pe_int (nomark _)) (pw_or1 (pt_not (pt_val (pe_callB (show CallR _ _ (rIsi K) from call_isi) (by rfl) (tm "isinstance" (by decide +kernel)) (by decide +kernel) (pa_cons (pe_ix (show IxR _ (fun x y H Q => rIxL K x y H Q ∨ rIxT K x y H Q) from ix_any) (pv 3) pe_int (fun _ _ => rfl)) (pa_cons (pe_bltn (v := .ty "str") (by rfl) (tm "str" (by decide +kernel)) (by decide +kernel) rfl) pa_nil))))))))) (pss_one (ps_ret pe_bl)) pss_nil) (pss_cons (ps_if (pt_cmpR (show OpR _ _ (rEqD K) from op_eqD hr.units) (pe_ix (show IxR _ (fun x y H Q => rIxL K x y H Q ∨ rIxT K x y H Q) from ix_any) (pv 3) pe_int (fun _ _ => rfl)) pe_str (nomark _)) (pss_one (ps_ret (pe_and (pe_cmpR (show OpR _ _ (rEqD K) from op_eqD hr.units) (pe_callB (show CallR _ _ (rLenQ K) from cl_len) (by rfl) (tm "len" (by decide +kernel)) (by decide +kernel) (pa_cons (pv 3) pa_nil)) pe_int (nomark _)) (pe_one (pe_f (ok_law_dam_ok T) hr rfl (pa_cons (pv 0) (pa_cons (pv 2) (pa_cons (pe_ix (show IxR _ (fun x y H Q => rIxL K x y H Q ∨ rIxT K x y H Q) from ix_any) (pv 3) pe_int (fun _ _ => rfl)) pa_nil)))))))) pss_nil) (pss_cons (ps_if (PW.pt (pw_or (pt_cmpR (show OpR _ _ (rNeD K) from op_neD hr.units) (pe_ix (show IxR _ (fun x y H Q => rIxL K x y H Q ∨ rIxT K x y H Q) from ix_any) (pv 3) pe_int (fun _ _ => rfl)) pe_str (nomark _)) (pw_or1 (pt_cmpR (show OpR _ _ (rNeD K) from op_neD hr.units) (pe_callB (show CallR _ _ (rLenQ K) from cl_len) (by rfl) (tm "len" (by decide +kernel)) (by decide +kernel) (pa_cons (pv 3) pa_nil)) pe_int (nomark _))))) (pss_one (ps_ret pe_bl)) pss_nil) (pss_cons (ps_if (PW.pt (pw_or (pt_not (pt_val (pe_f (ok_law_deal_ok T) hr rfl (pa_cons (pv 0) (pa_cons (pv 2) (pa_cons (pe_ix (show IxR _ (fun x y H Q => rIxL K x y H Q ∨ rIxT K x y H Q) from ix_any) (pv 3) pe_int (fun _ _ => rfl)) pa_nil)))))) (pw_or1 (pt_not (pt_val (pe_f (ok_law_prices_ok T) hr rfl (pa_cons (pv 0) (pa_cons (pv 1) (pa_cons (pv 2) (pa_cons (pe_ix (show IxR _ (fun x y H Q => rIxL K x y H Q ∨ rIxT K x y H Q) from ix_any) (pv 3) pe_int (fun _ _ => rfl)) pa_nil)))))))))) (pss_one (ps_ret pe_bl)) pss_nil) (pss_one (ps_ret (pe_cmpR (show OpR _ _ (rEqD K) from op_eqD hr.units) (pe_op (show OpR _ _ (rbMul K) from ob_mul) (pe_f (ok_law_dot T) (hr.mono (by decide)) rfl (pa_cons (pv 1) (pa_cons (pe_ix (show IxR _ (fun x y H Q => rIxL K x y H Q ∨ rIxT K x y H Q) from ix_any) (pe_ix (show IxR _ (fun x y H Q => rIxL K x y H Q ∨ rIxT K x y H Q) from ix_any) (pv 3) pe_int (fun _ _ => rfl)) pe_int (fun _ _ => rfl)) pa_nil))) (pe_ix (show IxR _ (fun x y H Q => rIxL K x y H Q ∨ rIxT K x y H Q) from ix_any) (pe_ix (show IxR _ (fun x y H Q => rIxL K x y H Q ∨ rIxT K x y H Q) from ix_any) (pv 3) pe_int (fun _ _ => rfl)) pe_int (fun _ _ => rfl))) (pe_op (show OpR _ _ (rbMul K) from ob_mul) (pe_f (ok_law_dot T) (hr.mono (by decide)) rfl (pa_cons (pe_ix (show IxR _ (fun x y H Q => rIxL K x y H Q ∨ rIxT K x y H Q) from ix_any) (pe_ix (show IxR _ (fun x y H Q => rIxL K x y H Q ∨ rIxT K x y H Q) from ix_any) (pv 3) pe_int (fun _ _ => rfl)) pe_int (fun _ _ => rfl)) (pa_cons (pv 2) pa_nil))) (pe_ix (show IxR _ (fun x y H Q => rIxL K x y H Q ∨ rIxT K x y H Q) from ix_any) (pe_ix (show IxR _ (fun x y H Q => rIxL K x y H Q ∨ rIxT K x y H Q) from ix_any) (pv 3) pe_int (fun _ _ => rfl)) pe_int (fun _ _ => rfl))) (nomark _)))))))), ps_body h (ds := r_law_least_ok) inferInstance body_law_least_ok⟩
theorem sc_law_costs : FnScope ["draw", "columns", "low", "column"] ["draw", "columns"] (defScope (top 61)) := ⟨rfl, rfl, rfl, by decide +kernel, rfl, by decide +kernel, by decide +kernel⟩
theorem ok_law_costs (T : Top P w K mg) : Fn P w K mg base 4 "_law_costs" ["draw", "columns"] (OSp 2 w_law_costs) := by
  obtain ⟨fd, F⟩ := T.fn 47 (x := "_law_costs") (st := (top 61)) rfl
  have sc := sc_law_costs
  have tm : ∀ x, x ∈ frees → mg x = none := fun x hx => T.free x (mem_free hx)
  refine ⟨⟨fd, F.ok sc (fun vs H Q E h => h.len) (fun cdv A outer s H vs Q E hr h => ?d), F.bindsN fun _ _ _ _ _ _ us hl => match us, hl with | [_, _], _ => rfl⟩, T.glo "_law_costs" (mem_glo (by decide +kernel)), F.kp⟩
  exact ⟨_, PSs.nox (pss_cons (ps_set (i := 2) sc.nd rfl (by first | exact Or.inl rfl | exact Or.inr rfl) (pe_fO (ok_law_pick T) hr (by rfl) 0 (pa_cons (pv 0) (pa_cons (pe_lst (pa_cons pe_int (pa_cons pe_int (pa_cons pe_int (pa_cons pe_int (pa_cons pe_int pa_nil)))))) pa_nil)))) (pss_one (ps_ret (pe_lc (own := [("column", 3)]) (g := (gName 3)) rfl sc.nd (pi_seq (pv 1)) (blkOk_by (N := ["draw", "columns", "low", "column"]) (sc := defScope (top 61)) (by decide +kernel)) (fun _ _ _ _ _ => (pg_name (i := 3) sc.nd rfl (by first | exact Or.inl rfl | exact Or.inr rfl))) (fun _ _ _ _ _ => pts_nil) (fun _ _ _ _ _ => (pe_op op_sub (pe_fO (ok_law_take T) (hr.mono (by decide)) (by rfl) 0 (pa_cons (pv 0) (pa_cons pe_int pa_nil))) (pv 2))))))), os_body h (ds := r_law_costs) inferInstance body_law_costs⟩

end
end K04
set_option Elab.async false
set_option linter.all false
set_option maxRecDepth 100000
set_option maxHeartbeats 4000000
set_option synthInstance.maxHeartbeats 4000000
set_option synthInstance.maxSize 100000
namespace K04
open PySem PySem.Spec PyProof.Rows L2 RZ Lf
theorem cg_drawn {n : Nat} {cols : List (List Int)} {goal : List Int} (h : Drawn n cols goal) : CG n cols goal := by
  have n1 := h.n1
  have n4 := h.n4
  have few := h.few
  exact ⟨⟨h.len, by omega, n1, by omega⟩, h.glen, fun r hr => small_of (h.csm r hr) (by decide), small_of h.gsm (by decide)⟩
theorem isN_deal {n : Nat} {cols : List (List Int)} {goal : List Int} (cg : CG n cols goal) {p : Bool} (hp : p = true ↔ HasDam n cols goal) : (dealD n cols goal).isN = p := by
  rcases told_cases cg with ⟨h, e1, w, _, e2⟩ | ⟨h, e2, s, cnt, _, e1⟩
  · have : p = true := hp.mpr h
    subst this
    rw [e1]; rfl
  · have : p = false := by
      cases p
      · rfl
      · exact absurd (hp.mp rfl) h
    subst this
    rw [e1]; rfl
theorem sum_dot {n m : Nat} {C : Nat → Sx.Vec} {x : Nat → Int} {w : Sx.Vec} : Sx.sm m (fun j => x j * Sx.dot n w (C j)) = Sx.dot n w fun i => Sx.sm m fun j => x j * C j i := by
  unfold Sx.dot
  rw [Sx.sm_congr (n := m) (fun j _ => (Sx.sm_mul n (x j) fun i => w i * C j i).symm), Sx.sm_comm]
  refine Sx.sm_congr fun i _ => ?_
  rw [← Sx.sm_mul]
  exact Sx.sm_congr fun j _ => by grind
theorem deal_dot {n : Nat} {cols : List (List Int)} {goal : List Int} {s : Int} {cnt : List Int} (K : DealOk n cols goal s cnt) (w : Sx.Vec) : Sx.sm cols.length (fun j => Sx.fn cnt j * Sx.dot n w (colF cols j)) = s * Sx.dot n w (Sx.fn goal) := by
  rw [sum_dot]
  unfold Sx.dot
  rw [← Sx.sm_mul]
  exact Sx.sm_congr fun i hi => by
    dsimp only
    rw [K.sum i hi]; grind
theorem weak {n : Nat} {cols : List (List Int)} {goal c cnt cnt' pr : List Int} {s s' q : Int} (L : LeastOk n cols goal c s cnt q pr) (K : DealOk n cols goal s' cnt') : s' * Sx.dot cols.length (Sx.fn c) (Sx.fn cnt) ≤ s * Sx.dot cols.length (Sx.fn c) (Sx.fn cnt') := by
  have q0 : 0 < q := by have := L.pri.q1; omega
  have s0 : 0 < s := by have := L.deal.s1; omega
  have e1 := deal_dot K (Sx.fn pr)
  have e2 : Sx.sm cols.length (fun j => Sx.fn cnt' j * Sx.dot n (Sx.fn pr) (colF cols j)) ≤ q * Sx.dot cols.length (Sx.fn c) (Sx.fn cnt') := by
    have : q * Sx.dot cols.length (Sx.fn c) (Sx.fn cnt') = Sx.sm cols.length fun j => Sx.fn cnt' j * (q * Sx.fn c j) := by
      unfold Sx.dot
      rw [← Sx.sm_mul]
      exact Sx.sm_congr fun j _ => by grind
    rw [this]
    exact Sx.sm_le fun j hj => Int.mul_le_mul_of_nonneg_left (L.pri.col j hj) (K.nn _ (Sx.fn_mem (by rw [K.len]; exact hj)))
  rw [e1] at e2
  have e3 := L.eq
  generalize Sx.dot cols.length (Sx.fn c) (Sx.fn cnt) = x at *
  generalize Sx.dot cols.length (Sx.fn c) (Sx.fn cnt') = z at *
  generalize Sx.dot n (Sx.fn pr) (Sx.fn goal) = y at *
  have h := Int.mul_le_mul_of_nonneg_left e2 (Int.le_of_lt s0)
  have h2 : q * (s' * x) ≤ q * (s * z) := by
    have a : q * (s' * x) = s * (s' * y) := by grind
    have b : q * (s * z) = s * (q * z) := by grind
    rw [a, b]; exact h
  exact Int.le_of_mul_le_mul_left h2 q0
/-- costs raised by prices -/
def moreF (n : Nat) (cols : List (List Int)) (c ra : List Int) (j : Nat) : Int := Sx.fn c j + Sx.dot n (Sx.fn ra) (colF cols j)
def moreL (n : Nat) (cols : List (List Int)) (c ra : List Int) : List Int := mk cols.length (moreF n cols c ra)
theorem more_dot {n : Nat} {cols : List (List Int)} {c ra cnt : List Int} : Sx.dot cols.length (Sx.fn (moreL n cols c ra)) (Sx.fn cnt) = Sx.dot cols.length (Sx.fn c) (Sx.fn cnt) + Sx.sm cols.length fun j => Sx.fn cnt j * Sx.dot n (Sx.fn ra) (colF cols j) := by
  unfold Sx.dot
  rw [← Sx.sm_add]
  refine Sx.sm_congr fun j hj => ?_
  have e : Sx.fn (moreL n cols c ra) j = Sx.fn c j + Sx.dot n (Sx.fn ra) (colF cols j) := mk_at hj
  rw [e]
  show (Sx.fn c j + Sx.dot n (Sx.fn ra) (colF cols j)) * Sx.fn cnt j = Sx.fn c j * Sx.fn cnt j + Sx.fn cnt j * Sx.dot n (Sx.fn ra) (colF cols j)
  grind
theorem last_eq {n : Nat} {cols : List (List Int)} {goal c ra cnt cnt' pr pr' : List Int} {s s' q q' : Int} (L : LeastOk n cols goal c s cnt q pr) (L' : LeastOk n cols goal (moreL n cols c ra) s' cnt' q' pr') :
    Sx.dot cols.length (Sx.fn c) (Sx.fn cnt) * s' + Sx.dot n (Sx.fn ra) (Sx.fn goal) * s * s' = Sx.dot cols.length (Sx.fn (moreL n cols c ra)) (Sx.fn cnt') * s := by
  have h1 := weak L L'.deal
  have h2 := weak L' L.deal
  rw [more_dot, more_dot, deal_dot L.deal, deal_dot L'.deal] at h2
  rw [more_dot, deal_dot L'.deal]
  generalize Sx.dot cols.length (Sx.fn c) (Sx.fn cnt) = x at *
  generalize Sx.dot cols.length (Sx.fn c) (Sx.fn cnt') = z at *
  generalize Sx.dot n (Sx.fn ra) (Sx.fn goal) = r at *
  have a : s * (z + s' * r) = s * z + s * s' * r := by grind
  have b : s' * (x + s * r) = s' * x + s * s' * r := by grind
  rw [a, b] at h2
  have e : s' * x = s * z := by omega
  grind
theorem end_neg {n : Nat} {cols : List (List Int)} {c e : List Int} (E : EndOk n cols c e) : ∃ x ∈ c, x < 0 := by
  refine Classical.byContradiction fun z => ?_
  have h : 0 ≤ Sx.dot e.length (Sx.fn e) (Sx.fn c) := Sx.sm_nonneg fun j hj => by
    refine Int.mul_nonneg (E.nn _ (Sx.fn_mem hj)) ?_
    by_cases l : j < c.length
    · exact Int.not_lt.mp fun q => z ⟨_, Sx.fn_mem l, q⟩
    · have : Sx.fn c j = 0 := by
        unfold Sx.fn
        rw [List.getD_eq_getElem?_getD, List.getElem?_eq_none (by omega)]; rfl
      show 0 ≤ Sx.fn c j
      omega
  have := E.neg
  omega
theorem never_end {n : Nat} {cols : List (List Int)} {goal c ra cnt pr e : List Int} {s q : Int} (L : LeastOk n cols goal c s cnt q pr) (E : EndOk n cols (moreL n cols c ra) e) : False := by
  have q0 : 0 < q := by have := L.pri.q1; omega
  have zero : ∀ w : Sx.Vec, Sx.sm cols.length (fun j => Sx.fn e j * Sx.dot n w (colF cols j)) = 0 := fun w => by
    rw [sum_dot]
    exact Sx.sm_zero fun i hi => by
      dsimp only
      rw [E.sum i hi, Int.mul_zero]
  have h1 : Sx.dot cols.length (Sx.fn e) (Sx.fn (moreL n cols c ra)) = Sx.dot cols.length (Sx.fn e) (Sx.fn c) := by
    have e1 : ∀ u v : Sx.Vec, Sx.dot cols.length u v = Sx.dot cols.length v u := fun u v => Sx.sm_congr fun j _ => Int.mul_comm _ _
    rw [e1, more_dot, zero, Int.add_zero, e1]
  have h2 := E.neg
  rw [E.len, h1] at h2
  have h3 : Sx.sm cols.length (fun j => Sx.fn e j * Sx.dot n (Sx.fn pr) (colF cols j)) ≤ q * Sx.dot cols.length (Sx.fn e) (Sx.fn c) := by
    have : q * Sx.dot cols.length (Sx.fn e) (Sx.fn c) = Sx.sm cols.length fun j => Sx.fn e j * (q * Sx.fn c j) := by
      unfold Sx.dot
      rw [← Sx.sm_mul]
      exact Sx.sm_congr fun j _ => by grind
    rw [this]
    exact Sx.sm_le fun j hj => Int.mul_le_mul_of_nonneg_left (L.pri.col j hj) (E.nn _ (Sx.fn_mem (by rw [E.len]; exact hj)))
  rw [zero] at h3
  have := Int.mul_pos q0 (show 0 < - Sx.dot cols.length (Sx.fn e) (Sx.fn c) by omega)
  rw [Int.mul_neg] at this
  omega
theorem again_least {n : Nat} {cols : List (List Int)} {goal c ra cnt pr : List Int} {s q : Int} (cc : CC n cols goal (moreL n cols c ra)) (nd : ¬ HasDam n cols goal) (L : LeastOk n cols goal c s cnt q pr) : ∃ s cnt q pr, LeastOk n cols goal (moreL n cols c ra) s cnt q pr ∧ solvedD n cols goal (moreL n cols c ra) = leasD s cnt q pr := by
  rcases least_cases cc with ⟨h, _⟩ | ⟨_, e, E, _⟩ | ⟨_, s, cnt, q, pr, ok, h⟩
  · exact absurd h nd
  · exact (never_end L E).elim
  · exact ⟨s, cnt, q, pr, ok, h⟩
/-- the costs of a turn -/
structure Cost (m : Nat) (c : List Int) : Prop where
  len : c.length = m
  sm : ∀ x ∈ c, -5 ≤ x ∧ x ≤ 12
theorem cc_drawn {n : Nat} {cols : List (List Int)} {goal c : List Int} (dr : Drawn n cols goal) (h : Cost cols.length c) : CC n cols goal c :=
  ⟨cg_drawn dr, h.len, fun x hx => by have := h.sm x hx; omega⟩
structure Raise (n : Nat) (ra : List Int) : Prop where
  len : ra.length = n
  sm : ∀ x ∈ ra, -3 ≤ x ∧ x ≤ 3
theorem Raise.small {n : Nat} {ra : List Int} (h : Raise n ra) : Small ra := fun x hx => by have := h.sm x hx; omega
theorem cc_more {n : Nat} {cols : List (List Int)} {goal c ra : List Int} (dr : Drawn n cols goal) (h : Cost cols.length c) (hr : Raise n ra) : CC n cols goal (moreL n cols c ra) := by
  refine ⟨cg_drawn dr, mk_len _ _, fun x hx => ?_⟩
  obtain ⟨j, hj, rfl⟩ := List.mem_map.mp hx
  have hj := List.mem_range.mp hj
  have n4 := dr.n4
  have b1 := h.sm _ (Sx.fn_mem (r := c) (i := j) (by rw [h.len]; exact hj))
  have b2 : (Sx.dot n (Sx.fn ra) (colF cols j)).natAbs ≤ n * 90000 := Sx.sm_abs fun i hi => by
    rw [Int.natAbs_mul]
    have h1 := hr.sm _ (Sx.fn_mem (r := ra) (i := i) (by rw [hr.len]; exact hi))
    have h2 := dr.csm _ (cols_getD hj) _ (Sx.fn_mem (r := cols.getD j []) (i := i) (by rw [dr.len _ (cols_getD hj)]; exact hi))
    have h3 : (colF cols j i).natAbs ≤ 30000 := by
      show (Sx.fn (cols.getD j []) i).natAbs ≤ 30000
      omega
    exact Nat.le_trans (Nat.mul_le_mul (show (Sx.fn ra i).natAbs ≤ 3 by omega) h3) (by decide)
  show (Sx.fn c j + Sx.dot n (Sx.fn ra) (colF cols j)).natAbs < 2 ^ 64
  omega
theorem flat_none {w : List Int} : flat 3 (noneD w) := flat_tup fun x hx => by
  have : x = .str "none" ∨ x = rowD w := by simpa using hx
  rcases this with rfl | rfl
  · exact (flat_str so_none).mono (by decide)
  · exact flat_row.mono (by decide)
theorem flat_endl {w : List Int} : flat 3 (endlD w) := flat_tup fun x hx => by
  have : x = .str "endless" ∨ x = rowD w := by simpa using hx
  rcases this with rfl | rfl
  · exact (flat_str so_endless).mono (by decide)
  · exact flat_row.mono (by decide)
theorem flat_leas {s q : Int} {cnt pr : List Int} : flat 3 (leasD s cnt q pr) := flat_tup fun x hx => by
  have : x = .str "least" ∨ x = .tup [.int s, rowD cnt] ∨ x = .tup [.int q, rowD pr] := by simpa using hx
  rcases this with rfl | rfl | rfl
  · exact (flat_str so_least).mono (by decide)
  · exact flat_two
  · exact flat_two
theorem flat_names : flat 1 (.lst [.str "none", .str "endless", .str "least"]) := flat_lst fun x hx => by
  have : x = .str "none" ∨ x = .str "endless" ∨ x = .str "least" := by simpa using hx
  rcases this with rfl | rfl | rfl
  · exact flat_str so_none
  · exact flat_str so_endless
  · exact flat_str so_least
theorem rv_nin {z : Str} {C : D → Prop} (hz : z = ("none" : Str) ∨ z = ("endless" : Str) ∨ z = ("least" : Str)) (h : C (.bl false)) : dNin (.str z) (.lst [.str "none", .str "endless", .str "least"]) C := by
  have ok : PyData.strOk z = true := by
    rcases hz with rfl | rfl | rfl
    · exact so_none
    · exact so_endless
    · exact so_least
  refine ⟨_, rfl, (flat_str ok).shp, flat_names.shp, ?_⟩
  have e : (!([D.str "none", .str "endless", .str "least"].any fun w => dEq w (.str z))) = false := by
    simp only [List.any_cons, List.any_nil, dEq_str]
    rcases hz with rfl | rfl | rfl <;> decide
  rw [e]; exact h
section
variable {P : Program} {w : World} {K : PySem.W.Frag} {mg : Str → Option Value} {base : Heap}

end
end K04
set_option Elab.async false
set_option linter.all false
set_option maxRecDepth 100000
set_option maxHeartbeats 4000000
set_option synthInstance.maxHeartbeats 4000000
set_option synthInstance.maxSize 100000
namespace K04
open PySem PySem.Spec PyProof.Rows L2 RZ Lf
def leastB : DS := (dSeq (dAsg (dCB dTupQ (dCons (dOfN (dLcN (diSeq (dVar 6)) (dgN 12) [12] dYes (dOp (rII fun i j => i - j) (dCallO 2 w_law_take 1 (dCons (dC (.int 7)) dNil)) (dC (.int 3))) [12])) dNil)) (dgN 7)) (dSeq (dAsg (dOfN (dLcN (diZipS (dCons (dVar 3) (dCons (dVar 5) dNil))) (dgTup 2 (dgCons (dgN 11) (dgCons (dgN 13) dgNil))) [11, 13] dYes (dOp dbAdd (dVar 11) (dCallP 2 w_law_dot (dCons (dVar 7) (dCons (dVar 13) dNil)))) [11, 13])) (dgN 8)) (dSeq (dAsg (dCallP 3 w_least_deal (dCons (dCB dTupQ (dCons (dVar 5) dNil)) (dCons (dCB dTupQ (dCons (dVar 8) dNil)) (dCons (dVar 6) dNil)))) (dgN 9)) (dSeq (dIfS (dOr (dTest (dOp dNeD (dOp dIx (dVar 9) (dC (.int 0))) (dC (.str "least")))) (dNot (dTest (dCallP 4 w_law_least_ok (dCons (dVar 5) (dCons (dVar 8) (dCons (dVar 6) (dCons (dVar 9) dNil)))))))) (dRet (dC (.bl false))) dNext) (dSeq (dAsg (dOp dbAdd (dOp dbMul (dCallP 2 w_law_dot (dCons (dVar 3) (dCons (dOp dIx (dOp dIx (dVar 4) (dC (.int 1))) (dC (.int 1))) dNil))) (dOp dIx (dOp dIx (dVar 9) (dC (.int 1))) (dC (.int 0)))) (dOp dbMul (dOp dbMul (dCallP 2 w_law_dot (dCons (dVar 7) (dCons (dVar 6) dNil))) (dOp dIx (dOp dIx (dVar 4) (dC (.int 1))) (dC (.int 0)))) (dOp dIx (dOp dIx (dVar 9) (dC (.int 1))) (dC (.int 0))))) (dgN 10)) (dIfS (dTest (dOp dNeD (dVar 10) (dOp dbMul (dCallP 2 w_law_dot (dCons (dVar 8) (dCons (dOp dIx (dOp dIx (dVar 9) (dC (.int 1))) (dC (.int 1))) dNil))) (dOp dIx (dOp dIx (dVar 4) (dC (.int 1))) (dC (.int 0)))))) (dRet (dC (.bl false))) dNext))))))
theorem ev_l11 {env : Lf.Env} {v : Nat} {s q : Int} {cnt pr : List Int} (h : env[v]? = some (some (.d (leasD s cnt q pr)))) : Ev (dOp dIx (dOp dIx (dVar v) (dC (.int 1))) (dC (.int 1))) env (rowD cnt) :=
  ev_op (x := .tup [.int s, rowD cnt]) (ev_op (ev_var h) ev_c fun C k => rv_ixT (i := ((1 : Nat) : Int)) (atI_nat rfl) k) ev_c fun C k => rv_ixT (i := ((1 : Nat) : Int)) (atI_nat rfl) k
theorem ev_l10 {env : Lf.Env} {v : Nat} {s q : Int} {cnt pr : List Int} (h : env[v]? = some (some (.d (leasD s cnt q pr)))) : Ev (dOp dIx (dOp dIx (dVar v) (dC (.int 1))) (dC (.int 0))) env (.int s) :=
  ev_op (x := .tup [.int s, rowD cnt]) (ev_op (ev_var h) ev_c fun C k => rv_ixT (i := ((1 : Nat) : Int)) (atI_nat rfl) k) ev_c fun C k => rv_ixT (i := ((0 : Nat) : Int)) (atI_nat rfl) k
theorem ev_h0 {env : Lf.Env} {v : Nat} {z : D} {xs : List D} (h : env[v]? = some (some (.d (.tup (z :: xs))))) : Ev (dOp dIx (dVar v) (dC (.int 0))) env z := ev_op (ev_var h) ev_c fun C k => rv_ixT (i := ((0 : Nat) : Int)) (atI_nat rfl) k
/-- tuple([.. for item in goal]) of drawn numbers -/
theorem es_rowS {env : Lf.Env} {de : DE} {lo hi : Int} {g : List Int} {i j : Nat} (hs : env[i]? = some (some (.d (rowD g)))) (hn : g.length ≤ 1000) (no : noOwnB env [j] = true) (fr : free (wipeE env [j]) j = true)
    (h : ∀ d, Es de ((wipeE env [j]).set j (some (.d d))) fun d => ∃ x, d = .int x ∧ lo ≤ x ∧ x ≤ hi) :
    Es (dCB dTupQ (dCons (dOfN (dLcN (diSeq (dVar i)) (dgN j) [j] dYes de [j])) dNil)) env fun d => ∃ r : List Int, d = rowD r ∧ r.length = g.length ∧ ∀ x ∈ r, lo ≤ x ∧ x ≤ hi := by
  have hl : (g.map D.int).length = g.length := List.length_map ..
  refine es_cb (T := fun ds => ∃ ys : List D, ds = [.lst ys] ∧ ys.length = g.length ∧ ∀ y ∈ ys, ∃ x, y = .int x ∧ lo ≤ x ∧ x ≤ hi) (fun C k => es_cons1 (es_lc (xs := g.map .int) (fun _ d => ∃ x, d = .int x ∧ lo ≤ x ∧ x ≤ hi) (ei_seq (ev_var hs) rfl) (by omega) (by simp) no fun i x hx => ⟨_, tg_n fr, h x⟩) _ fun ds ⟨x, ⟨ys, ex, l, hy⟩, e⟩ => k _ ⟨ys, by rw [e, ex], by omega, fun y hy' => let ⟨t, ht⟩ := List.mem_iff_getElem?.mp hy'; hy t y ht⟩) ?_
  rintro ds ⟨ys, rfl, l, hy⟩ C k
  obtain ⟨r, rfl, hr⟩ := ints_ex hy
  exact cv_tup rfl (k _ ⟨r, rfl, by simpa using l, hr⟩)
theorem prod_lt {x y : Int} {a b : Nat} (hx : x.natAbs < 2 ^ a) (hy : y.natAbs < 2 ^ b) : (x * y).natAbs < 2 ^ (a + b) := by
  rw [Int.natAbs_mul, Nat.pow_add]
  exact Nat.mul_lt_mul'' hx hy
theorem law_least {K : PySem.W.Frag} {ns : List Int} {n : Nat} {cols : List (List Int)} {goal c cnt pr : List Int} {s q : Int} (dr : Drawn n cols goal) (hc : Cost cols.length c) (nd : ¬ HasDam n cols goal) (L : LeastOk n cols goal c s cnt q pr) {a2 : D} {a7 a8 a9 a10 a11 a12 a13 : Option D} {E : DEnds}
    (k : ∀ a7 a8 a9 a10 a11 a12 a13 : Option D, E.nx [some (.o (scrO K ns)), some (.o drw), some (.d a2), some (.d (.lst (c.map .int))), some (.d (leasD s cnt q pr)), some (.d (.lst (cols.map rowD))), some (.d (rowD goal)), a7.map .d, a8.map .d, a9.map .d, a10.map .d, a11.map .d, a12.map .d, a13.map .d]) :
    leastB [some (.o (scrO K ns)), some (.o drw), some (.d a2), some (.d (.lst (c.map .int))), some (.d (leasD s cnt q pr)), some (.d (.lst (cols.map rowD))), some (.d (rowD goal)), a7.map .d, a8.map .d, a9.map .d, a10.map .d, a11.map .d, a12.map .d, a13.map .d] E := by
  have cg := cg_drawn dr
  have n1 := dr.n1
  have n4 := dr.n4
  have few := dr.few
  have glen := dr.glen
  have clen := hc.len
  refine st_seq (st_asg (S := fun d => ∃ ra : List Int, d = rowD ra ∧ ra.length = goal.length ∧ ∀ x ∈ ra, -3 ≤ x ∧ x ≤ 3) (es_rowS (by rfl) (by omega) (by cases a12 <;> rfl) (by cases a12 <;> rfl) fun d => ?_) (by cases a7 <;> rfl) ?_)
  · exact es_op (A := fun d => ∃ k : Int, 0 ≤ k ∧ k < 7 ∧ d = .int k) (B := fun d => d = .int 3) (es_take (i := 1) (by cases a12 <;> rfl) ev_c (by decide) (by decide)) ev_c fun x y ⟨k, k0, k1, ex⟩ ey C q => by subst ex ey; exact rv_ii rfl (q _ ⟨_, rfl, by omega, by omega⟩)
  rintro d ⟨ra, rfl, hrl, hrb⟩
  have R : Raise n ra := ⟨by omega, hrb⟩
  have rlen := R.len
  have cc := cc_drawn dr hc
  have cc2 := cc_more dr hc R
  dsimp only
  refine st_seq (st_asg1 (d := lstD (moreL n cols c ra)) (ev_mkR (n := cols.length) (x := fun j => .tup [.int (Sx.fn c j), rowD (cols.getD j [])]) (f := moreF n cols c ra) ?_ (by omega) (by simp) (by cases a11 <;> cases a13 <;> rfl) fun j hj => ⟨_, tg_two (by cases a11 <;> rfl) (by cases a11 <;> cases a13 <;> rfl), ?_⟩) (by cases a8 <;> rfl) ?_)
  · have : zipD (c.map D.int) (cols.map rowD) = (List.range cols.length).map fun j => .tup [.int (Sx.fn c j), rowD (cols.getD j [])] := by
      rw [c_range clen, rows_range rowD, zip_range]
    rw [← this]
    exact ei_zip (p := false) (q := false) (ea_cons (ev_var (by rfl)) (ea_cons (ev_var (by rfl)) ea_nil)) rfl rfl
  · have cl := colF_len cg.ok hj
    exact ev_op (x := .int (Sx.fn c j)) (y := .int (Sx.dot n (Sx.fn ra) (colF cols j))) (ev_var (by cases a11 <;> cases a13 <;> rfl)) (ev_call (ea_cons (ev_var (d := rowD ra) (by cases a11 <;> cases a13 <;> rfl)) (ea_cons (ev_var (d := rowD (cols.getD j [])) (by cases a11 <;> cases a13 <;> rfl)) ea_nil)) rfl fun C k => ⟨_, _, true, true, ra, cols.getD j [], rfl, rfl, rfl, by omega, by omega, .inl R.small, by rw [rlen]; exact k⟩) fun C k => rv_add rfl k
  dsimp only
  obtain ⟨s', cnt', q', pr', L', e'⟩ := again_least cc2 nd L
  refine st_seq (st_asg1 (d := leasD s' cnt' q' pr') (ev_call (ea_cons (ev_cb (ea_cons (ev_var (d := .lst (cols.map rowD)) (by rfl)) ea_nil) fun C k => cv_tup rfl k) (ea_cons (ev_cb (ea_cons (ev_var (d := lstD (moreL n cols c ra)) (by rfl)) ea_nil) fun C k => cv_tup (xs := (moreL n cols c ra).map .int) rfl k) (ea_cons (ev_var (d := rowD goal) (by rfl)) ea_nil))) rfl fun C k => ⟨true, true, n, cols, goal, moreL n cols c ra, cc2, rfl, by rw [e']; exact k⟩) (by cases a9 <;> rfl) ?_)
  dsimp only
  refine st_seq (st_if1 (p := false) (et_or (p := false) (q := false) (et_test (ev_op (ev_h0 (z := .str "least") (xs := [.tup [.int s', rowD cnt'], .tup [.int q', rowD pr']]) (by rfl)) ev_c fun C k => rv_neS so_least so_least (by decide) k)) fun _ =>
    et_not (p := true) (et_test (ev_call (ea_cons (ev_var (d := .lst (cols.map rowD)) (by rfl)) (ea_cons (ev_var (d := lstD (moreL n cols c ra)) (by rfl)) (ea_cons (ev_var (d := rowD goal) (by rfl)) (ea_cons (ev_var (d := leasD s' cnt' q' pr') (by rfl)) ea_nil)))) rfl fun C k => ⟨false, false, n, cols, goal, moreL n cols c ra, _, rfl, cc2, .inr ⟨s', cnt', q', pr', L', rfl⟩, k⟩))) (fun e => nomatch e) fun _ => ?_)
  simp only [dNext]
  have dlen := L.deal.len
  have dlen' := L'.deal.len
  have mlen : (moreL n cols c ra).length = cols.length := mk_len _ _
  have b1 : (Sx.dot cols.length (Sx.fn c) (Sx.fn cnt)).natAbs < 2 ^ 20100 := dot_bigS clen dlen (by omega) cc.csm L.bs.tail
  have b2 : (Sx.dot cols.length (Sx.fn (moreL n cols c ra)) (Sx.fn cnt')).natAbs < 2 ^ 20100 := dot_bigS mlen dlen' (by omega) cc2.csm L'.bs.tail
  have bg : Big goal := fun x hx => Nat.lt_trans (cg.gsm x hx) (Nat.pow_lt_pow_right (by omega) (by omega))
  have b3 : (Sx.dot n (Sx.fn ra) (Sx.fn goal)).natAbs < 2 ^ 20100 := dot_bigS rlen glen (by omega) R.small bg
  have b4 := big_lt (L.bs s List.mem_cons_self)
  have b5 := big_lt (L'.bs s' List.mem_cons_self)
  have b6 : (Sx.dot n (Sx.fn ra) (Sx.fn goal) * s).natAbs < 2 ^ 40200 := prod_lt b3 b4
  refine st_seq (st_asg1 (d := .int (Sx.dot cols.length (Sx.fn c) (Sx.fn cnt) * s' + Sx.dot n (Sx.fn ra) (Sx.fn goal) * s * s')) (ev_op (ev_op (ev_call (ea_cons (ev_var (d := .lst (c.map .int)) (by rfl)) (ea_cons (ev_l11 (s := s) (cnt := cnt) (q := q) (pr := pr) (by rfl)) ea_nil)) rfl fun C k => ⟨_, _, false, true, c, cnt, rfl, rfl, rfl, by omega, by omega, .inl cc.csm, by rw [clen]; exact k⟩) (ev_l10 (s := s') (cnt := cnt') (q := q') (pr := pr') (by rfl)) fun C k => rv_mul (.inr (wide_mul b1 b5 (by decide) (by decide) (by decide))) rfl k)
    (ev_op (ev_op (ev_call (ea_cons (ev_var (d := rowD ra) (by rfl)) (ea_cons (ev_var (d := rowD goal) (by rfl)) ea_nil)) rfl fun C k => ⟨_, _, true, true, ra, goal, rfl, rfl, rfl, by omega, by omega, .inl R.small, by rw [rlen]; exact k⟩) (ev_l10 (s := s) (cnt := cnt) (q := q) (pr := pr) (by rfl)) fun C k => rv_mul (.inr (wide_mul b3 b4 (by decide) (by decide) (by decide))) rfl k) (ev_l10 (s := s') (cnt := cnt') (q := q') (pr := pr') (by rfl)) fun C k => rv_mul (.inr (wide_mul b6 b5 (by decide) (by decide) (by decide))) rfl k) fun C k => rv_add rfl k) (by cases a10 <;> rfl) ?_)
  dsimp only
  refine st_if1 (p := false) (et_test (ev_op (ev_var (by rfl)) (ev_op (ev_call (ea_cons (ev_var (d := lstD (moreL n cols c ra)) (by rfl)) (ea_cons (ev_l11 (s := s') (cnt := cnt') (q := q') (pr := pr') (by rfl)) ea_nil)) rfl fun C k => ⟨_, _, false, true, moreL n cols c ra, cnt', rfl, rfl, rfl, by omega, by omega, .inl cc2.csm, by rw [mlen]; exact k⟩) (ev_l10 (s := s) (cnt := cnt) (q := q) (pr := pr) (by rfl)) fun C k => rv_mul (.inr (wide_mul b2 b4 (by decide) (by decide) (by decide))) rfl k) fun C k => rv_ne flat_int.shp flat_int.shp (by rw [dEq_int, last_eq L L']; simp) k)) (fun e => nomatch e) fun _ => ?_
  exact k (some _) (some _) (some _) (some _) a11 a12 a13
section
variable {P : Program} {w : World} {K : PySem.W.Frag} {mg : Str → Option Value} {base : Heap}

end
end K04
set_option Elab.async false
set_option linter.all false
set_option maxRecDepth 100000
set_option maxHeartbeats 4000000
set_option synthInstance.maxHeartbeats 4000000
set_option synthInstance.maxSize 100000
namespace K04
open PySem PySem.Spec PyProof.Rows L2 RZ Lf
theorem et_andF {env : Lf.Env} {t u : DT} {p : Bool} (h : EvT t env p) (h2 : p = true → EvT u env false) : EvT (dAnd t u) env false := by
  have := et_and (q := false) h h2
  rw [Bool.and_false] at this
  exact this
def restB : DS := (dSeq (dIfS (dTest (dOp dEqD (dOp dIx (dVar 4) (dC (.int 0))) (dC (.str "endless")))) (dIfS (dOr (dTest (dOp dNeD (dCB dLen (dCons (dVar 4) dNil)) (dC (.int 2)))) (dNot (dTest (dCallP 4 w_law_endless_ok (dCons (dVar 5) (dCons (dVar 3) (dCons (dVar 6) (dCons (dOp dIx (dVar 4) (dC (.int 1))) dNil)))))))) (dRet (dC (.bl false))) dNext) (dIfS (dNot (dTest (dCallP 4 w_law_least_ok (dCons (dVar 5) (dCons (dVar 3) (dCons (dVar 6) (dCons (dVar 4) dNil))))))) (dRet (dC (.bl false))) dNext)) (dSeq (dIfS (dAnd (dTest (dOp dEqD (dOp dIx (dVar 4) (dC (.int 0))) (dC (.str "endless")))) (dTest (dOp dEqD (dOfN (dLcN (diSeq (dVar 3)) (dgN 11) [11] (dTest (dOp (rIB fun i j => decide (i < j)) (dVar 11) (dC (.int 0)))) (dC (.int 1)) [11])) (dLst dNil)))) (dRet (dC (.bl false))) dNext) (dIfS (dTest (dOp dEqD (dOp dIx (dVar 4) (dC (.int 0))) (dC (.str "least")))) (dSeq (dAsg (dCB dTupQ (dCons (dOfN (dLcN (diSeq (dVar 6)) (dgN 12) [12] dYes (dOp (rII fun i j => i - j) (dCallO 2 w_law_take 1 (dCons (dC (.int 7)) dNil)) (dC (.int 3))) [12])) dNil)) (dgN 7)) (dSeq (dAsg (dOfN (dLcN (diZipS (dCons (dVar 3) (dCons (dVar 5) dNil))) (dgTup 2 (dgCons (dgN 11) (dgCons (dgN 13) dgNil))) [11, 13] dYes (dOp dbAdd (dVar 11) (dCallP 2 w_law_dot (dCons (dVar 7) (dCons (dVar 13) dNil)))) [11, 13])) (dgN 8)) (dSeq (dAsg (dCallP 3 w_least_deal (dCons (dCB dTupQ (dCons (dVar 5) dNil)) (dCons (dCB dTupQ (dCons (dVar 8) dNil)) (dCons (dVar 6) dNil)))) (dgN 9)) (dSeq (dIfS (dOr (dTest (dOp dNeD (dOp dIx (dVar 9) (dC (.int 0))) (dC (.str "least")))) (dNot (dTest (dCallP 4 w_law_least_ok (dCons (dVar 5) (dCons (dVar 8) (dCons (dVar 6) (dCons (dVar 9) dNil)))))))) (dRet (dC (.bl false))) dNext) (dSeq (dAsg (dOp dbAdd (dOp dbMul (dCallP 2 w_law_dot (dCons (dVar 3) (dCons (dOp dIx (dOp dIx (dVar 4) (dC (.int 1))) (dC (.int 1))) dNil))) (dOp dIx (dOp dIx (dVar 9) (dC (.int 1))) (dC (.int 0)))) (dOp dbMul (dOp dbMul (dCallP 2 w_law_dot (dCons (dVar 7) (dCons (dVar 6) dNil))) (dOp dIx (dOp dIx (dVar 4) (dC (.int 1))) (dC (.int 0)))) (dOp dIx (dOp dIx (dVar 9) (dC (.int 1))) (dC (.int 0))))) (dgN 10)) (dIfS (dTest (dOp dNeD (dVar 10) (dOp dbMul (dCallP 2 w_law_dot (dCons (dVar 8) (dCons (dOp dIx (dOp dIx (dVar 9) (dC (.int 1))) (dC (.int 1))) dNil))) (dOp dIx (dOp dIx (dVar 4) (dC (.int 1))) (dC (.int 0)))))) (dRet (dC (.bl false))) dNext)))))) dNext)))
def headB : DS := (dSeq (dAsg (dCallG .app 1 2 3 w_least_deal (dCons (dVar 5) dNil) (dCons (dVar 3) (dCons (dVar 6) dNil))) (dgN 4)) (dSeq (dIfS (dOr (dNot (dTest (dIsi "tuple" (dVar 4)))) (dTest (dOp dNin (dOp dIx (dVar 4) (dC (.int 0))) (dLst (dCons (dC (.str "none")) (dCons (dC (.str "endless")) (dCons (dC (.str "least")) dNil))))))) (dRet (dC (.bl false))) dNext) (dSeq (dIfS (dTest (dOp dNeD (dCallG .rev 0 3 3 w_least_deal dNil (dCons (dVar 6) (dCons (dCB dTupQ (dCons (dVar 3) dNil)) (dCons (dCB dTupQ (dCons (dVar 5) dNil)) dNil)))) (dVar 4))) (dRet (dC (.bl false))) dNext) (dSeq (dIfS (dTest (dOp dNeD (dOp dEqD (dOp dIx (dVar 4) (dC (.int 0))) (dC (.str "none"))) (dOp dIsN (dCallP 2 w_dealt (dCons (dVar 5) (dCons (dVar 6) dNil))) (dC .non)))) (dRet (dC (.bl false))) dNext) (dSeq (dIfS (dTest (dOp dEqD (dOp dIx (dVar 4) (dC (.int 0))) (dC (.str "endless")))) (dIfS (dOr (dTest (dOp dNeD (dCB dLen (dCons (dVar 4) dNil)) (dC (.int 2)))) (dNot (dTest (dCallP 4 w_law_endless_ok (dCons (dVar 5) (dCons (dVar 3) (dCons (dVar 6) (dCons (dOp dIx (dVar 4) (dC (.int 1))) dNil)))))))) (dRet (dC (.bl false))) dNext) (dIfS (dNot (dTest (dCallP 4 w_law_least_ok (dCons (dVar 5) (dCons (dVar 3) (dCons (dVar 6) (dCons (dVar 4) dNil))))))) (dRet (dC (.bl false))) dNext)) (dSeq (dIfS (dAnd (dTest (dOp dEqD (dOp dIx (dVar 4) (dC (.int 0))) (dC (.str "endless")))) (dTest (dOp dEqD (dOfN (dLcN (diSeq (dVar 3)) (dgN 11) [11] (dTest (dOp (rIB fun i j => decide (i < j)) (dVar 11) (dC (.int 0)))) (dC (.int 1)) [11])) (dLst dNil)))) (dRet (dC (.bl false))) dNext) (dIfS (dTest (dOp dEqD (dOp dIx (dVar 4) (dC (.int 0))) (dC (.str "least")))) (dSeq (dAsg (dCB dTupQ (dCons (dOfN (dLcN (diSeq (dVar 6)) (dgN 12) [12] dYes (dOp (rII fun i j => i - j) (dCallO 2 w_law_take 1 (dCons (dC (.int 7)) dNil)) (dC (.int 3))) [12])) dNil)) (dgN 7)) (dSeq (dAsg (dOfN (dLcN (diZipS (dCons (dVar 3) (dCons (dVar 5) dNil))) (dgTup 2 (dgCons (dgN 11) (dgCons (dgN 13) dgNil))) [11, 13] dYes (dOp dbAdd (dVar 11) (dCallP 2 w_law_dot (dCons (dVar 7) (dCons (dVar 13) dNil)))) [11, 13])) (dgN 8)) (dSeq (dAsg (dCallP 3 w_least_deal (dCons (dCB dTupQ (dCons (dVar 5) dNil)) (dCons (dCB dTupQ (dCons (dVar 8) dNil)) (dCons (dVar 6) dNil)))) (dgN 9)) (dSeq (dIfS (dOr (dTest (dOp dNeD (dOp dIx (dVar 9) (dC (.int 0))) (dC (.str "least")))) (dNot (dTest (dCallP 4 w_law_least_ok (dCons (dVar 5) (dCons (dVar 8) (dCons (dVar 6) (dCons (dVar 9) dNil)))))))) (dRet (dC (.bl false))) dNext) (dSeq (dAsg (dOp dbAdd (dOp dbMul (dCallP 2 w_law_dot (dCons (dVar 3) (dCons (dOp dIx (dOp dIx (dVar 4) (dC (.int 1))) (dC (.int 1))) dNil))) (dOp dIx (dOp dIx (dVar 9) (dC (.int 1))) (dC (.int 0)))) (dOp dbMul (dOp dbMul (dCallP 2 w_law_dot (dCons (dVar 7) (dCons (dVar 6) dNil))) (dOp dIx (dOp dIx (dVar 4) (dC (.int 1))) (dC (.int 0)))) (dOp dIx (dOp dIx (dVar 9) (dC (.int 1))) (dC (.int 0))))) (dgN 10)) (dIfS (dTest (dOp dNeD (dVar 10) (dOp dbMul (dCallP 2 w_law_dot (dCons (dVar 8) (dCons (dOp dIx (dOp dIx (dVar 9) (dC (.int 1))) (dC (.int 1))) dNil))) (dOp dIx (dOp dIx (dVar 4) (dC (.int 1))) (dC (.int 0)))))) (dRet (dC (.bl false))) dNext)))))) dNext)))))))
def turnB : DS := (dSeq (dAsg (dCallO 1 w_law_some_columns 1 dNil) (dgTup 2 (dgCons (dgN 5) (dgCons (dgN 6) dgNil)))) (dSeq (dAsg (dCallO 2 w_law_costs 1 (dCons (dVar 5) dNil)) (dgN 3)) (dSeq (dAsg (dCallG .app 1 2 3 w_least_deal (dCons (dVar 5) dNil) (dCons (dVar 3) (dCons (dVar 6) dNil))) (dgN 4)) (dSeq (dIfS (dOr (dNot (dTest (dIsi "tuple" (dVar 4)))) (dTest (dOp dNin (dOp dIx (dVar 4) (dC (.int 0))) (dLst (dCons (dC (.str "none")) (dCons (dC (.str "endless")) (dCons (dC (.str "least")) dNil))))))) (dRet (dC (.bl false))) dNext) (dSeq (dIfS (dTest (dOp dNeD (dCallG .rev 0 3 3 w_least_deal dNil (dCons (dVar 6) (dCons (dCB dTupQ (dCons (dVar 3) dNil)) (dCons (dCB dTupQ (dCons (dVar 5) dNil)) dNil)))) (dVar 4))) (dRet (dC (.bl false))) dNext) (dSeq (dIfS (dTest (dOp dNeD (dOp dEqD (dOp dIx (dVar 4) (dC (.int 0))) (dC (.str "none"))) (dOp dIsN (dCallP 2 w_dealt (dCons (dVar 5) (dCons (dVar 6) dNil))) (dC .non)))) (dRet (dC (.bl false))) dNext) (dSeq (dIfS (dTest (dOp dEqD (dOp dIx (dVar 4) (dC (.int 0))) (dC (.str "endless")))) (dIfS (dOr (dTest (dOp dNeD (dCB dLen (dCons (dVar 4) dNil)) (dC (.int 2)))) (dNot (dTest (dCallP 4 w_law_endless_ok (dCons (dVar 5) (dCons (dVar 3) (dCons (dVar 6) (dCons (dOp dIx (dVar 4) (dC (.int 1))) dNil)))))))) (dRet (dC (.bl false))) dNext) (dIfS (dNot (dTest (dCallP 4 w_law_least_ok (dCons (dVar 5) (dCons (dVar 3) (dCons (dVar 6) (dCons (dVar 4) dNil))))))) (dRet (dC (.bl false))) dNext)) (dSeq (dIfS (dAnd (dTest (dOp dEqD (dOp dIx (dVar 4) (dC (.int 0))) (dC (.str "endless")))) (dTest (dOp dEqD (dOfN (dLcN (diSeq (dVar 3)) (dgN 11) [11] (dTest (dOp (rIB fun i j => decide (i < j)) (dVar 11) (dC (.int 0)))) (dC (.int 1)) [11])) (dLst dNil)))) (dRet (dC (.bl false))) dNext) (dIfS (dTest (dOp dEqD (dOp dIx (dVar 4) (dC (.int 0))) (dC (.str "least")))) (dSeq (dAsg (dCB dTupQ (dCons (dOfN (dLcN (diSeq (dVar 6)) (dgN 12) [12] dYes (dOp (rII fun i j => i - j) (dCallO 2 w_law_take 1 (dCons (dC (.int 7)) dNil)) (dC (.int 3))) [12])) dNil)) (dgN 7)) (dSeq (dAsg (dOfN (dLcN (diZipS (dCons (dVar 3) (dCons (dVar 5) dNil))) (dgTup 2 (dgCons (dgN 11) (dgCons (dgN 13) dgNil))) [11, 13] dYes (dOp dbAdd (dVar 11) (dCallP 2 w_law_dot (dCons (dVar 7) (dCons (dVar 13) dNil)))) [11, 13])) (dgN 8)) (dSeq (dAsg (dCallP 3 w_least_deal (dCons (dCB dTupQ (dCons (dVar 5) dNil)) (dCons (dCB dTupQ (dCons (dVar 8) dNil)) (dCons (dVar 6) dNil)))) (dgN 9)) (dSeq (dIfS (dOr (dTest (dOp dNeD (dOp dIx (dVar 9) (dC (.int 0))) (dC (.str "least")))) (dNot (dTest (dCallP 4 w_law_least_ok (dCons (dVar 5) (dCons (dVar 8) (dCons (dVar 6) (dCons (dVar 9) dNil)))))))) (dRet (dC (.bl false))) dNext) (dSeq (dAsg (dOp dbAdd (dOp dbMul (dCallP 2 w_law_dot (dCons (dVar 3) (dCons (dOp dIx (dOp dIx (dVar 4) (dC (.int 1))) (dC (.int 1))) dNil))) (dOp dIx (dOp dIx (dVar 9) (dC (.int 1))) (dC (.int 0)))) (dOp dbMul (dOp dbMul (dCallP 2 w_law_dot (dCons (dVar 7) (dCons (dVar 6) dNil))) (dOp dIx (dOp dIx (dVar 4) (dC (.int 1))) (dC (.int 0)))) (dOp dIx (dOp dIx (dVar 9) (dC (.int 1))) (dC (.int 0))))) (dgN 10)) (dIfS (dTest (dOp dNeD (dVar 10) (dOp dbMul (dCallP 2 w_law_dot (dCons (dVar 8) (dCons (dOp dIx (dOp dIx (dVar 9) (dC (.int 1))) (dC (.int 1))) dNil))) (dOp dIx (dOp dIx (dVar 4) (dC (.int 1))) (dC (.int 0)))))) (dRet (dC (.bl false))) dNext)))))) dNext)))))))))
abbrev envL (K : PySem.W.Frag) (ns : List Int) (a2 : D) (c : List Int) (d : D) (cols : List (List Int)) (goal : List Int) (a7 a8 a9 a10 a11 a12 a13 : Option D) : Lf.Env := [some (.o (scrO K ns)), some (.o drw), some (.d a2), some (.d (.lst (c.map .int))), some (.d d), some (.d (.lst (cols.map rowD))), some (.d (rowD goal)), a7.map .d, a8.map .d, a9.map .d, a10.map .d, a11.map .d, a12.map .d, a13.map .d]
section
variable {K : PySem.W.Frag} {ns : List Int} {n : Nat} {cols : List (List Int)} {goal c : List Int} {a2 : D} {a7 a8 a9 a10 a11 a12 a13 : Option D} {E : DEnds}
theorem rest_none {w : List Int} (dr : Drawn n cols goal) (hc : Cost cols.length c) (dk : DamOk n cols goal w) (k : ∀ a7 a8 a9 a10 a11 a12 a13 : Option D, E.nx (envL K ns a2 c (noneD w) cols goal a7 a8 a9 a10 a11 a12 a13)) : restB (envL K ns a2 c (noneD w) cols goal a7 a8 a9 a10 a11 a12 a13) E := by
  have cc := cc_drawn dr hc
  have h0 : Ev (dOp dIx (dVar 4) (dC (.int 0))) (envL K ns a2 c (noneD w) cols goal a7 a8 a9 a10 a11 a12 a13) (.str "none") := ev_h0 (xs := [rowD w]) (by rfl)
  refine st_seq (st_if1 (p := false) (et_test (ev_op h0 ev_c fun C k => rv_eqS so_none so_endless (by decide) k)) (fun e => nomatch e) fun _ => ?_)
  refine st_if1 (p := false) (et_not (p := true) (et_test (ev_call (ea_cons (ev_var (d := .lst (cols.map rowD)) (by rfl)) (ea_cons (ev_var (d := .lst (c.map .int)) (by rfl)) (ea_cons (ev_var (d := rowD goal) (by rfl)) (ea_cons (ev_var (d := noneD w) (by rfl)) ea_nil)))) rfl fun C k => ⟨false, false, n, cols, goal, c, _, rfl, cc, .inl ⟨w, dk, rfl⟩, k⟩))) (fun e => nomatch e) fun _ => ?_
  simp only [dNext]
  refine st_seq (st_if1 (p := false) (et_and (p := false) (q := false) (et_test (ev_op h0 ev_c fun C k => rv_eqS so_none so_endless (by decide) k)) fun e => nomatch e) (fun e => nomatch e) fun _ => ?_)
  simp only [dNext]
  exact st_if1 (p := false) (et_test (ev_op h0 ev_c fun C k => rv_eqS so_none so_least (by decide) k)) (fun e => nomatch e) fun _ => k _ _ _ _ _ _ _
def negD : D → List D
  | .int v => if v < 0 then [.int 1] else []
  | _ => []
theorem rest_endl {w : List Int} (dr : Drawn n cols goal) (hc : Cost cols.length c) (ek : EndOk n cols c w) (k : ∀ a7 a8 a9 a10 a11 a12 a13 : Option D, E.nx (envL K ns a2 c (endlD w) cols goal a7 a8 a9 a10 a11 a12 a13)) : restB (envL K ns a2 c (endlD w) cols goal a7 a8 a9 a10 a11 a12 a13) E := by
  have cc := cc_drawn dr hc
  have few := dr.few
  have clen := hc.len
  have h0 : Ev (dOp dIx (dVar 4) (dC (.int 0))) (envL K ns a2 c (endlD w) cols goal a7 a8 a9 a10 a11 a12 a13) (.str "endless") := ev_h0 (xs := [rowD w]) (by rfl)
  refine st_seq (st_if1 (p := true) (et_test (ev_op h0 ev_c fun C k => rv_eqS so_endless so_endless (by decide) k)) (fun _ => ?_) fun e => nomatch e)
  refine st_if1 (p := false) (et_or (p := false) (q := false) (et_test (ev_op (ev_cb (ea_cons (ev_var (d := endlD w) (by rfl)) ea_nil) fun C k => cv_len rfl k) ev_c fun C k => rv_ne flat_int.shp flat_int.shp (by rw [dEq_int]; rfl) k)) fun _ =>
    et_not (p := true) (et_test (ev_call (ea_cons (ev_var (d := .lst (cols.map rowD)) (by rfl)) (ea_cons (ev_var (d := .lst (c.map .int)) (by rfl)) (ea_cons (ev_var (d := rowD goal) (by rfl)) (ea_cons (ev_op (ev_var (d := endlD w) (by rfl)) ev_c fun C k => rv_ixT (i := ((1 : Nat) : Int)) (atI_nat rfl) k) ea_nil)))) rfl fun C k => ⟨false, false, n, cols, goal, c, w, rfl, cc, ek, k⟩))) (fun e => nomatch e) fun _ => ?_
  simp only [dNext]
  have fl : flat 1 (.lst ((c.map D.int).flatMap negD)) := flat_lst fun x hx => by
    obtain ⟨y, hy, hx⟩ := List.mem_flatMap.mp hx
    obtain ⟨v, _, rfl⟩ := List.mem_map.mp hy
    have hx : x = .int 1 := by
      by_cases lt : v < 0
      · simpa [negD, lt] using hx
      · simp [negD, lt] at hx
    subst hx
    exact flat_int
  have ne : ((c.map D.int).flatMap negD).isEmpty = false := by
    obtain ⟨v, hv, lt⟩ := end_neg ek
    have : D.int 1 ∈ (c.map D.int).flatMap negD := List.mem_flatMap.mpr ⟨.int v, List.mem_map_of_mem hv, by simp [negD, lt]⟩
    cases h : (c.map D.int).flatMap negD with
    | nil => rw [h] at this; simp at this
    | cons _ _ => rfl
  refine st_seq (st_if1 (p := false) (et_andF (p := true) (et_test (ev_op h0 ev_c fun C k => rv_eqS so_endless so_endless (by decide) k)) fun _ => et_test (ev_op (x := .lst ((c.map D.int).flatMap negD)) (y := .lst []) (ev_lc negD (ei_seq (ev_var (d := .lst (c.map .int)) (by rfl)) rfl) (by rw [List.length_map]; omega) (by simp) (by cases a11 <;> rfl) fun x hx => ?_) (ev_lst ea_nil (by decide)) fun C k => rv_eq fl.shp flat_nil.shp (by rw [dEq_nil]; exact ne) k)) (fun e => nomatch e) fun _ => ?_)
  · obtain ⟨v, hv, rfl⟩ := List.mem_map.mp hx
    refine ⟨_, tg_n (by cases a11 <;> rfl), ?_⟩
    by_cases lt : v < 0
    · exact .inl ⟨.int 1, by simp [negD, lt], et_test (ev_op (ev_var (d := .int v) (by cases a11 <;> rfl)) ev_c fun C k => rv_ib (decide_eq_true lt) k), ev_c⟩
    · exact .inr ⟨by simp [negD, lt], et_test (ev_op (ev_var (d := .int v) (by cases a11 <;> rfl)) ev_c fun C k => rv_ib (decide_eq_false lt) k)⟩
  simp only [dNext]
  exact st_if1 (p := false) (et_test (ev_op h0 ev_c fun C k => rv_eqS so_endless so_least (by decide) k)) (fun e => nomatch e) fun _ => k _ _ _ _ _ _ _
theorem rest_leas {s q : Int} {cnt pr : List Int} (dr : Drawn n cols goal) (hc : Cost cols.length c) (nd : ¬ HasDam n cols goal) (L : LeastOk n cols goal c s cnt q pr) (k : ∀ a7 a8 a9 a10 a11 a12 a13 : Option D, E.nx (envL K ns a2 c (leasD s cnt q pr) cols goal a7 a8 a9 a10 a11 a12 a13)) : restB (envL K ns a2 c (leasD s cnt q pr) cols goal a7 a8 a9 a10 a11 a12 a13) E := by
  have cc := cc_drawn dr hc
  have h0 : Ev (dOp dIx (dVar 4) (dC (.int 0))) (envL K ns a2 c (leasD s cnt q pr) cols goal a7 a8 a9 a10 a11 a12 a13) (.str "least") := ev_h0 (xs := [.tup [.int s, rowD cnt], .tup [.int q, rowD pr]]) (by rfl)
  refine st_seq (st_if1 (p := false) (et_test (ev_op h0 ev_c fun C k => rv_eqS so_least so_endless (by decide) k)) (fun e => nomatch e) fun _ => ?_)
  refine st_if1 (p := false) (et_not (p := true) (et_test (ev_call (ea_cons (ev_var (d := .lst (cols.map rowD)) (by rfl)) (ea_cons (ev_var (d := .lst (c.map .int)) (by rfl)) (ea_cons (ev_var (d := rowD goal) (by rfl)) (ea_cons (ev_var (d := leasD s cnt q pr) (by rfl)) ea_nil)))) rfl fun C k => ⟨false, false, n, cols, goal, c, _, rfl, cc, .inr ⟨s, cnt, q, pr, L, rfl⟩, k⟩))) (fun e => nomatch e) fun _ => ?_
  simp only [dNext]
  refine st_seq (st_if1 (p := false) (et_and (p := false) (q := false) (et_test (ev_op h0 ev_c fun C k => rv_eqS so_least so_endless (by decide) k)) fun e => nomatch e) (fun e => nomatch e) fun _ => ?_)
  simp only [dNext]
  exact st_if1 (p := true) (et_test (ev_op h0 ev_c fun C k => rv_eqS so_least so_least (by decide) k)) (fun _ => law_least dr hc nd L fun a7 a8 a9 a10 a11 a12 a13 => k a7 a8 a9 a10 a11 a12 a13) fun e => nomatch e
theorem law_head {z : Str} {xs : List D} {a4 : Option D} (dr : Drawn n cols goal) (hc : Cost cols.length c) (hz : z = ("none" : Str) ∨ z = ("endless" : Str) ∨ z = ("least" : Str)) (fl : flat 3 (.tup (.str z :: xs))) (hs : solvedD n cols goal c = .tup (.str z :: xs)) (hp : decide (z = ("none" : Str)) = true ↔ HasDam n cols goal)
    (k : restB (envL K ns a2 c (.tup (.str z :: xs)) cols goal a7 a8 a9 a10 a11 a12 a13) E) :
    headB [some (.o (scrO K ns)), some (.o drw), some (.d a2), some (.d (.lst (c.map .int))), a4.map .d, some (.d (.lst (cols.map rowD))), some (.d (rowD goal)), a7.map .d, a8.map .d, a9.map .d, a10.map .d, a11.map .d, a12.map .d, a13.map .d] E := by
  have cc := cc_drawn dr hc
  have cg := cc.cg
  refine st_seq (st_asg1 (d := .tup (.str z :: xs)) (ev_callG (ds := [.lst (cols.map rowD)]) (es := [.lst (c.map .int), rowD goal]) (ea_cons (ev_var (by rfl)) ea_nil) (ea_cons (ev_var (by rfl)) (ea_cons (ev_var (by rfl)) ea_nil)) rfl rfl rfl fun C k => ⟨false, false, n, cols, goal, c, cc, rfl, by rw [hs]; exact k⟩) (by cases a4 <;> rfl) ?_)
  dsimp only
  refine st_seq (st_if1 (p := false) (et_or (p := false) (q := false) (et_not (p := true) (et_test (ev_isi (ev_var (d := .tup (.str z :: xs)) (by rfl)) (kit_tup _)))) fun _ =>
    et_test (ev_op (x := .str z) (y := .lst [.str "none", .str "endless", .str "least"]) (ev_h0 (by rfl)) (ev_lst (ea_cons ev_c (ea_cons ev_c (ea_cons ev_c ea_nil))) (by show 3 ≤ 100000; decide)) fun C k => rv_nin hz k)) (fun e => nomatch e) fun _ => ?_)
  simp only [dNext]
  refine st_seq (st_if1 (p := false) (et_test (ev_op (x := .tup (.str z :: xs)) (y := .tup (.str z :: xs)) (ev_callG (ds := []) (es := [rowD goal, .tup (c.map .int), .tup (cols.map rowD)]) ea_nil (ea_cons (ev_var (by rfl)) (ea_cons (ev_cb (ea_cons (ev_var (d := .lst (c.map .int)) (by rfl)) ea_nil) fun C k => cv_tup rfl k) (ea_cons (ev_cb (ea_cons (ev_var (d := .lst (cols.map rowD)) (by rfl)) ea_nil) fun C k => cv_tup rfl k) ea_nil))) rfl rfl rfl fun C k => ⟨true, true, n, cols, goal, c, cc, rfl, by rw [hs]; exact k⟩) (ev_var (by rfl)) fun C k => rv_ne fl.shp fl.shp (by rw [dEq_refl fl]; rfl) k)) (fun e => nomatch e) fun _ => ?_)
  simp only [dNext]
  have ok : PyData.strOk z = true := by
    rcases hz with rfl | rfl | rfl
    · exact so_none
    · exact so_endless
    · exact so_least
  refine st_seq (st_if1 (p := false) (et_test (ev_op (x := .bl (decide (z = ("none" : Str)))) (y := .bl (decide (z = ("none" : Str)))) (ev_op (ev_h0 (z := .str z) (xs := xs) (by rfl)) ev_c fun C k => rv_eqS ok so_none rfl k) (ev_op (x := dealD n cols goal) (ev_call (ea_cons (ev_var (d := .lst (cols.map rowD)) (by rfl)) (ea_cons (ev_var (d := rowD goal) (by rfl)) ea_nil)) rfl fun C k => ⟨false, n, cols, goal, cg, rfl, k⟩) ev_c fun C k => rv_isN (isN_deal cg hp) k) fun C k => rv_ne flat_bl.shp flat_bl.shp (by rw [dEq_refl flat_bl]; rfl) k)) (fun e => nomatch e) fun _ => ?_)
  simp only [dNext]
  exact k
theorem law_turn {a3 a4 a5 a6 : Option D}
    (k : ∀ a3 a4 a5 a6 a7 a8 a9 a10 a11 a12 a13 : Option D, E.nx [some (.o (scrO K ns)), some (.o drw), some (.d a2), a3.map .d, a4.map .d, a5.map .d, a6.map .d, a7.map .d, a8.map .d, a9.map .d, a10.map .d, a11.map .d, a12.map .d, a13.map .d]) :
    turnB [some (.o (scrO K ns)), some (.o drw), some (.d a2), a3.map .d, a4.map .d, a5.map .d, a6.map .d, a7.map .d, a8.map .d, a9.map .d, a10.map .d, a11.map .d, a12.map .d, a13.map .d] E := by
  have hd : Es (dCallO 1 w_law_some_columns 1 dNil) [some (.o (scrO K ns)), some (.o drw), some (.d a2), a3.map .d, a4.map .d, a5.map .d, a6.map .d, a7.map .d, a8.map .d, a9.map .d, a10.map .d, a11.map .d, a12.map .d, a13.map .d]
      fun d => ∃ n cols goal, Drawn n cols goal ∧ d = .tup [.lst (cols.map rowD), rowD goal] := es_callO (by rfl) ea_nil rfl fun C q => ⟨rfl, rfl, fun n cols goal h => q _ ⟨n, cols, goal, h, rfl⟩⟩
  refine st_seq (hd _ ?_)
  rintro d ⟨n, cols, goal, dr, rfl⟩
  refine ⟨keepE_refl, tg_two (by cases a5 <;> rfl) (by cases a6 <;> rfl) _ ?_⟩
  dsimp only
  have few := dr.few
  refine st_seq (st_asg (S := fun d => ∃ c : List Int, d = .lst (c.map .int) ∧ Cost cols.length c) (es_callO (by rfl) (ea_cons (ev_var (d := .lst (cols.map rowD)) (by rfl)) ea_nil) rfl fun C q => ⟨rfl, cols, rfl, by omega, fun c hc hb => q _ ⟨c, rfl, hc, hb⟩⟩) (by cases a3 <;> rfl) ?_)
  rintro d ⟨c, rfl, hc⟩
  dsimp only
  have cc := cc_drawn dr hc
  rcases least_cases cc with ⟨hdm, w, dk, e⟩ | ⟨hdm, w, ek, e⟩ | ⟨hdm, s, cnt, q, pr, L, e⟩
  · refine law_head (z := "none") (xs := [rowD w]) (a4 := a4) dr hc (.inl rfl) flat_none e (by simpa using hdm) ?_
    exact rest_none dr hc dk fun a7 a8 a9 a10 a11 a12 a13 => k (some _) (some _) (some _) (some _) a7 a8 a9 a10 a11 a12 a13
  · refine law_head (z := "endless") (xs := [rowD w]) (a4 := a4) dr hc (.inr (.inl rfl)) flat_endl e (iff_of_false (by decide) hdm) ?_
    exact rest_endl dr hc ek fun a7 a8 a9 a10 a11 a12 a13 => k (some _) (some _) (some _) (some _) a7 a8 a9 a10 a11 a12 a13
  · refine law_head (z := "least") (xs := [.tup [.int s, rowD cnt], .tup [.int q, rowD pr]]) (a4 := a4) dr hc (.inr (.inr rfl)) flat_leas e (iff_of_false (by decide) hdm) ?_
    exact rest_leas dr hc hdm L fun a7 a8 a9 a10 a11 a12 a13 => k (some _) (some _) (some _) (some _) a7 a8 a9 a10 a11 a12 a13
end
def r_law (K : PySem.W.Frag) : DS := (dSeq (dBgn K 1 0) (dSeq (dFor (diR1 (dCons (dOp dbAdd (dC (.int 2)) (dCB dMin2 (dCons (dLenS K 0) (dCons (dC (.int 4)) dNil)))) dNil)) (dgN 2) (dSeq (dAsg (dCallO 1 w_law_some_columns 1 dNil) (dgTup 2 (dgCons (dgN 5) (dgCons (dgN 6) dgNil)))) (dSeq (dAsg (dCallO 2 w_law_costs 1 (dCons (dVar 5) dNil)) (dgN 3)) (dSeq (dAsg (dCallG .app 1 2 3 w_least_deal (dCons (dVar 5) dNil) (dCons (dVar 3) (dCons (dVar 6) dNil))) (dgN 4)) (dSeq (dIfS (dOr (dNot (dTest (dIsi "tuple" (dVar 4)))) (dTest (dOp dNin (dOp dIx (dVar 4) (dC (.int 0))) (dLst (dCons (dC (.str "none")) (dCons (dC (.str "endless")) (dCons (dC (.str "least")) dNil))))))) (dRet (dC (.bl false))) dNext) (dSeq (dIfS (dTest (dOp dNeD (dCallG .rev 0 3 3 w_least_deal dNil (dCons (dVar 6) (dCons (dCB dTupQ (dCons (dVar 3) dNil)) (dCons (dCB dTupQ (dCons (dVar 5) dNil)) dNil)))) (dVar 4))) (dRet (dC (.bl false))) dNext) (dSeq (dIfS (dTest (dOp dNeD (dOp dEqD (dOp dIx (dVar 4) (dC (.int 0))) (dC (.str "none"))) (dOp dIsN (dCallP 2 w_dealt (dCons (dVar 5) (dCons (dVar 6) dNil))) (dC .non)))) (dRet (dC (.bl false))) dNext) (dSeq (dIfS (dTest (dOp dEqD (dOp dIx (dVar 4) (dC (.int 0))) (dC (.str "endless")))) (dIfS (dOr (dTest (dOp dNeD (dCB dLen (dCons (dVar 4) dNil)) (dC (.int 2)))) (dNot (dTest (dCallP 4 w_law_endless_ok (dCons (dVar 5) (dCons (dVar 3) (dCons (dVar 6) (dCons (dOp dIx (dVar 4) (dC (.int 1))) dNil)))))))) (dRet (dC (.bl false))) dNext) (dIfS (dNot (dTest (dCallP 4 w_law_least_ok (dCons (dVar 5) (dCons (dVar 3) (dCons (dVar 6) (dCons (dVar 4) dNil))))))) (dRet (dC (.bl false))) dNext)) (dSeq (dIfS (dAnd (dTest (dOp dEqD (dOp dIx (dVar 4) (dC (.int 0))) (dC (.str "endless")))) (dTest (dOp dEqD (dOfN (dLcN (diSeq (dVar 3)) (dgN 11) [11] (dTest (dOp (rIB fun i j => decide (i < j)) (dVar 11) (dC (.int 0)))) (dC (.int 1)) [11])) (dLst dNil)))) (dRet (dC (.bl false))) dNext) (dIfS (dTest (dOp dEqD (dOp dIx (dVar 4) (dC (.int 0))) (dC (.str "least")))) (dSeq (dAsg (dCB dTupQ (dCons (dOfN (dLcN (diSeq (dVar 6)) (dgN 12) [12] dYes (dOp (rII fun i j => i - j) (dCallO 2 w_law_take 1 (dCons (dC (.int 7)) dNil)) (dC (.int 3))) [12])) dNil)) (dgN 7)) (dSeq (dAsg (dOfN (dLcN (diZipS (dCons (dVar 3) (dCons (dVar 5) dNil))) (dgTup 2 (dgCons (dgN 11) (dgCons (dgN 13) dgNil))) [11, 13] dYes (dOp dbAdd (dVar 11) (dCallP 2 w_law_dot (dCons (dVar 7) (dCons (dVar 13) dNil)))) [11, 13])) (dgN 8)) (dSeq (dAsg (dCallP 3 w_least_deal (dCons (dCB dTupQ (dCons (dVar 5) dNil)) (dCons (dCB dTupQ (dCons (dVar 8) dNil)) (dCons (dVar 6) dNil)))) (dgN 9)) (dSeq (dIfS (dOr (dTest (dOp dNeD (dOp dIx (dVar 9) (dC (.int 0))) (dC (.str "least")))) (dNot (dTest (dCallP 4 w_law_least_ok (dCons (dVar 5) (dCons (dVar 8) (dCons (dVar 6) (dCons (dVar 9) dNil)))))))) (dRet (dC (.bl false))) dNext) (dSeq (dAsg (dOp dbAdd (dOp dbMul (dCallP 2 w_law_dot (dCons (dVar 3) (dCons (dOp dIx (dOp dIx (dVar 4) (dC (.int 1))) (dC (.int 1))) dNil))) (dOp dIx (dOp dIx (dVar 9) (dC (.int 1))) (dC (.int 0)))) (dOp dbMul (dOp dbMul (dCallP 2 w_law_dot (dCons (dVar 7) (dCons (dVar 6) dNil))) (dOp dIx (dOp dIx (dVar 4) (dC (.int 1))) (dC (.int 0)))) (dOp dIx (dOp dIx (dVar 9) (dC (.int 1))) (dC (.int 0))))) (dgN 10)) (dIfS (dTest (dOp dNeD (dVar 10) (dOp dbMul (dCallP 2 w_law_dot (dCons (dVar 8) (dCons (dOp dIx (dOp dIx (dVar 9) (dC (.int 1))) (dC (.int 1))) dNil))) (dOp dIx (dOp dIx (dVar 4) (dC (.int 1))) (dC (.int 0)))))) (dRet (dC (.bl false))) dNext)))))) dNext)))))))))) (dRet (dC (.bl true)))))
theorem body_law (K : PySem.W.Frag) {ns : List Int} (hl : ns.length ≤ 63) : r_law K [some (.o (scrO K ns)), none, none, none, none, none, none, none, none, none, none, none, none, none] { nx := fun _ => False, rt := fun d _ => d = .bl true } := by
  refine st_seq (st_bgn (by rfl) (by omega) (by rfl) ?_)
  dsimp only
  refine st_seq (st_for (xs := rngD 0 (2 + (if (4 : Int) < (ns.length : Int) then 4 else (ns.length : Int))).toNat) (fun i e => ∃ a2 a3 a4 a5 a6 a7 a8 a9 a10 a11 a12 a13 : Option D, e = [some (.o (scrO K ns)), some (.o drw), a2.map .d, a3.map .d, a4.map .d, a5.map .d, a6.map .d, a7.map .d, a8.map .d, a9.map .d, a10.map .d, a11.map .d, a12.map .d, a13.map .d]) ?_ ⟨none, none, none, none, none, none, none, none, none, none, none, none, by rfl⟩ ?_ ?_)
  · refine ei_r1 (n := 2 + (if (4 : Int) < (ns.length : Int) then 4 else (ns.length : Int))) (ea_cons (ev_op ev_c (ev_cb (ea_cons (ev_lenS (by rfl)) (ea_cons ev_c ea_nil)) fun C k => ⟨_, _, rfl, k⟩) fun C k => rv_add rfl k) ea_nil) ?_ ?_
    · split <;> omega
    · split <;> omega
  · rintro i x e hx ⟨a2, a3, a4, a5, a6, a7, a8, a9, a10, a11, a12, a13, rfl⟩
    refine ⟨_, tg_n (by cases a2 <;> rfl), ?_⟩
    exact law_turn fun b3 b4 b5 b6 b7 b8 b9 b10 b11 b12 b13 => ⟨some x, b3, b4, b5, b6, b7, b8, b9, b10, b11, b12, b13, by rfl⟩
  · rintro e ⟨a2, a3, a4, a5, a6, a7, a8, a9, a10, a11, a12, a13, rfl⟩
    exact st_ret1 ev_c rfl
section
variable {P : Program} {w : World} {K : PySem.W.Frag} {mg : Str → Option Value} {base : Heap}

end
end K04
set_option Elab.async false
set_option linter.all false
set_option maxRecDepth 100000
set_option maxHeartbeats 4000000
set_option synthInstance.maxHeartbeats 4000000
set_option synthInstance.maxSize 100000
namespace K04
open PySem PySem.Spec PyProof.Rows L2 RZ Lf
theorem sc_law_begun : FnScope ["script", "large", "cell"] ["script"] (defScope (top 45)) := ⟨rfl, rfl, rfl, by decide +kernel, rfl, by decide +kernel, by decide +kernel⟩
theorem ok_law_begun {P : Program} {w : World} {K : PySem.W.Frag} {mg : Str → Option Value} {base : Heap} (T : Top P w K mg) : Fn P w K mg base 1 "_law_begun" ["script"] (begunSp K) := by
  obtain ⟨fd, F⟩ := T.fn 31 (x := "_law_begun") (st := (top 45)) rfl
  have sc := sc_law_begun
  have tm : ∀ x, x ∈ frees → mg x = none := fun x hx => T.free x (mem_free hx)
  refine ⟨⟨fd, F.ok sc (fun vs H Q E h => by obtain ⟨a, ns, rfl, _⟩ := h; rfl) (fun cdv A outer s H vs Q E hr h => ?d), F.bindsN fun _ _ _ _ _ _ us hl => match us, hl with | [_], _ => rfl⟩, T.glo "_law_begun" (mem_glo (by decide +kernel)), F.kp⟩
  exact ⟨tBegun K, PSs.nox (pss_cons (ps_own (ps_setLc (i := 1) (own := [("cell", 2)]) (g := (gName 2)) rfl sc.nd rfl rfl (sw_true rfl rfl rfl (by decide +kernel)) (pi_scr (pi_seq (pv 0))) (blkOk_by (N := ["script", "large", "cell"]) (sc := defScope (top 45)) (by decide +kernel)) (fun _ _ _ _ _ => (pg_name (i := 2) sc.nd rfl (by first | exact Or.inl rfl | exact Or.inr rfl)))
      (fun _ _ _ _ _ => (pts_one (pt_cmpR op_ge (pe_callB cl_abs (by rfl) (tm "abs" (by decide +kernel)) (by decide +kernel) (pa_cons (pv 2) pa_nil)) (pe_op op_pow pe_int pe_int) (nomark _)))) (fun _ _ _ _ _ => (pe_op op_sub (pe_callB cl_abs (by rfl) (tm "abs" (by decide +kernel)) (by decide +kernel) (pa_cons (pv 2) pa_nil)) (pe_op op_pow pe_int pe_int)))))
    (pss_one (ps_ret (pe_disp (pps_cons pe_str (pv 1) (pps_cons pe_str (pe_lc (own := [("cell", 2)]) (g := (gName 2)) rfl sc.nd (pi_scr (pi_seq (pv 0))) (blkOk_by (N := ["script", "large", "cell"]) (sc := defScope (top 45)) (by decide +kernel)) (fun _ _ _ _ _ => (pg_name (i := 2) sc.nd rfl (by first | exact Or.inl rfl | exact Or.inr rfl))) (fun _ _ _ _ _ => pts_nil) (fun _ _ _ _ _ => (pe_callB cl_abs (by rfl) (tm "abs" (by decide +kernel)) (by decide +kernel) (pa_cons (pv 2) pa_nil))))
      (pps_cons pe_str pe_int (pps_cons pe_str pe_int pps_nil)))) rfl rfl (by exact fun z => by cases z) (by decide))))), begun_pure h⟩
theorem s_body {K : PySem.W.Frag} {N : List Str} {m : Nat} {a : Addr} {ns : List Int} {G : Hp} {t : TS} {ds : DS} (ha : AbsS t ds) (hS : SqL K G a (ns.map V.int)) (hN : N.length = m + 1)
    (body : ds (some (.o (scrO K ns)) :: List.replicate m none) { nx := fun _ => False, rt := fun d _ => d = .bl true }) : t { nx := fun _ G' => (fun (v : V) (_ : Hp) => v = .bl true) .non G', rt := fun v _ => v = .bl true } (L2.start N [.ref a]) G := by
  have es : L2.start N [.ref a] = some (.ref a) :: List.replicate m none := by
    rw [start_eq, hN]; rfl
  have er : EnvF G G G (L2.start N [.ref a]) (some (.o (scrO K ns)) :: List.replicate m none) (fun _ => []) := by
    rw [es]
    refine ⟨by simp, fun i e he => ?_, fun i e he x hx => by simp at hx, fun i j e e' _ _ _ x hx => by simp at hx⟩
    cases i with
    | zero => cases he; exact ⟨_, rfl, rfl, a, rfl, hS⟩
    | succ i =>
      rw [List.getElem?_cons_succ, List.getElem?_replicate] at he
      split at he <;> cases he
  refine ha.run _ G G G _ _ _ ⟨_, er⟩ (Same.refl _) (Same.refl _) body (fun _ _ _ _ _ _ _ _ _ _ z => z.elim) (fun v d _ _ _ _ _ _ _ _ _ _ rv z => ?_) (fun _ _ _ _ _ _ _ _ _ _ z => z.elim) (fun _ _ _ _ _ _ _ _ _ _ z => z.elim)
  subst z
  exact rv.bl_inv
theorem sc_law : FnScope ["script", "draw", "turn", "costs", "told", "columns", "goal", "raised", "more", "again", "first", "cost", "item", "column"] ["script"] (defScope (top 62)) := ⟨rfl, rfl, rfl, by decide +kernel, rfl, by decide +kernel, by decide +kernel⟩
theorem law_runs {P : Program} {w : World} {K : PySem.W.Frag} {mg : Str → Option Value} {base : Heap} (T : Top P w K mg) {t : Shared} {G : Hp} {a : Addr} {ns : List Int} (hl : ns.length ≤ 63) (e0 : Env0 P w K mg base callerA [] t G) (hS : SqL K G a (ns.map V.int)) :
    codeAny (model P w) callerA (.call (.ref (He.ga K "law")) ⟨[.ref a], []⟩) (CR CX0 [] P w G t (fun v _ => v = .bl true) fun _ _ _ => False) t := by
  obtain ⟨fd, F⟩ := T.fn 48 (x := "law") (st := (top 62)) rfl
  have sc := sc_law
  have tm : ∀ x, x ∈ frees → mg x = none := fun x hx => T.free x (mem_free hx)
  refine run_at (k := 8) (vs := [.ref a]) (us := [.ref a]) F sc ⟨rfl, by decide, by decide⟩ e0 (FunD.bindsA F (ps := ["script"]) (fun _ _ _ _ _ _ us hl => match us, hl with | [_], _ => rfl) t [.ref a] rfl) (.cons rfl .nil) rfl fun cdv hr => ?_
  have hgd : (callerA.deeper (envOfC "law" (defScope (top 62)) t.heap.objs.size (He.ga K "law") cdv)).guards = some [] := rfl
  exact ⟨_, PSs.nox (pss_cons (ps_bgn (ps_set (i := 1) sc.nd rfl (by first | exact Or.inl rfl | exact Or.inr rfl) (pe_f (ok_law_begun T) (hr.mono (by decide)) rfl (pa_cons (pv 0) pa_nil)))) (pss_cons (ps_for PassesOwn.never rfl (pi_range1 rfl (tm "range" (by decide +kernel)) (pa_cons (pe_op (show OpR _ _ (rbAdd K) from ob_add) pe_int (pe_callB (cl_min2 rfl) (by rfl) (tm "min" (by decide +kernel)) (by decide +kernel) (pa_cons (pe_lenS (K := K) (pe_callB (show CallR _ _ (rLenQ K) from cl_len) (by rfl) (tm "len" (by decide +kernel)) (by decide +kernel) (pa_cons (pv 0) pa_nil))) (pa_cons pe_int pa_nil)))) pa_nil)) (pg_name (i := 2) sc.nd rfl (by first | exact Or.inl rfl | exact Or.inr rfl)) (pss_cons (ps_asg (pe_fO (ok_law_some_columns T) (hr.mono (by decide)) (by rfl) 1 (pa_cons (pv 1) pa_nil)) (pg_tup (n := 2) rfl (pgs_cons (pg_name (i := 5) sc.nd rfl (by first | exact Or.inl rfl | exact Or.inr rfl)) (pgs_cons (pg_name (i := 6) sc.nd rfl (by first | exact Or.inl rfl | exact Or.inr rfl)) pgs_nil)))) (pss_cons (ps_set (i := 3) sc.nd rfl (by first | exact Or.inl rfl | exact Or.inr rfl) (pe_fO (ok_law_costs T) (hr.mono (by decide)) (by rfl) 1 (pa_cons (pv 1) (pa_cons (pv 5) pa_nil)))) (pss_cons (ps_set (i := 4) sc.nd rfl (by first | exact Or.inl rfl | exact Or.inr rfl) (pe_fk (okk_least_deal_app1 T) (hr.mono (by decide)) (by rfl) (pa_cons (pv 5) pa_nil) (pk_cons (pv 3) (pk_cons (pv 6) pk_nil)))) (pss_cons (ps_if (PW.pt (pw_or (pt_not (pt_val (pe_callB (show CallR _ _ (rIsi K) from call_isi) (by rfl) (tm "isinstance" (by decide +kernel)) (by decide +kernel) (pa_cons (pv 4) (pa_cons (pe_bltn (v := .ty "tuple") (by rfl) (tm "tuple" (by decide +kernel)) (by decide +kernel) rfl) pa_nil))))) (pw_or1 (pt_cmpR (show OpR _ _ (rNotInD K) from op_notInD (room65 hr)) (pe_ix (show IxR _ (fun x y H Q => rIxL K x y H Q ∨ rIxT K x y H Q) from ix_any) (pv 4) pe_int (fun _ _ => rfl)) (pe_lst (pa_cons pe_str (pa_cons pe_str (pa_cons pe_str pa_nil)))) (by rfl))))) (pss_one (ps_ret pe_bl)) pss_nil) (pss_cons (ps_if (pt_cmpR (show OpR _ _ (rNeD K) from op_neD hr.units) (pe_fk0 (okk_least_deal_rev0 T) (hr.mono (by decide)) (by rfl) (pk_cons (pv 6) (pk_cons (pe_callTy (show CallR _ _ (rTupQ K) from cl_tuple) (by rfl) (tm "tuple" (by decide +kernel)) (by decide +kernel) (pa_cons (pv 3) pa_nil)) (pk_cons (pe_callTy (show CallR _ _ (rTupQ K) from cl_tuple) (by rfl) (tm "tuple" (by decide +kernel)) (by decide +kernel) (pa_cons (pv 5) pa_nil)) pk_nil)))) (pv 4) (nomark _)) (pss_one (ps_ret pe_bl)) pss_nil) (pss_cons (ps_if (pt_cmpR (show OpR _ _ (rNeD K) from op_neD hr.units) (pe_cmpR (show OpR _ _ (rEqD K) from op_eqD hr.units) (pe_ix (show IxR _ (fun x y H Q => rIxL K x y H Q ∨ rIxT K x y H Q) from ix_any) (pv 4) pe_int (fun _ _ => rfl)) pe_str (nomark _)) (pe_cmpR op_isN1 (pe_f (ok_dealt T) hr rfl (pa_cons (pv 5) (pa_cons (pv 6) pa_nil))) pe_non (nomark _)) (nomark _)) (pss_one (ps_ret pe_bl)) pss_nil) (pss_cons (ps_if (pt_cmpR (show OpR _ _ (rEqD K) from op_eqD hr.units) (pe_ix (show IxR _ (fun x y H Q => rIxL K x y H Q ∨ rIxT K x y H Q) from ix_any) (pv 4) pe_int (fun _ _ => rfl)) pe_str (nomark _)) (pss_one (ps_if (PW.pt (pw_or (pt_cmpR (show OpR _ _ (rNeD K) from op_neD hr.units) (pe_callB (show CallR _ _ (rLenQ K) from cl_len) (by rfl) (tm "len" (by decide +kernel)) (by decide +kernel) (pa_cons (pv 4) pa_nil)) pe_int (nomark _)) (pw_or1 (pt_not (pt_val (pe_f (ok_law_endless_ok T) (hr.mono (by decide)) rfl (pa_cons (pv 5) (pa_cons (pv 3) (pa_cons (pv 6) (pa_cons (pe_ix (show IxR _ (fun x y H Q => rIxL K x y H Q ∨ rIxT K x y H Q) from ix_any) (pv 4) pe_int (fun _ _ => rfl)) pa_nil)))))))))) (pss_one (ps_ret pe_bl)) pss_nil)) (pss_one (ps_if (pt_not (pt_val (pe_f (ok_law_least_ok T) (hr.mono (by decide)) rfl (pa_cons (pv 5) (pa_cons (pv 3) (pa_cons (pv 6) (pa_cons (pv 4) pa_nil))))))) (pss_one (ps_ret pe_bl)) pss_nil))) (pss_cons (ps_if (PW.pt (pw_and (pt_cmpR (show OpR _ _ (rEqD K) from op_eqD hr.units) (pe_ix (show IxR _ (fun x y H Q => rIxL K x y H Q ∨ rIxT K x y H Q) from ix_any) (pv 4) pe_int (fun _ _ => rfl)) pe_str (nomark _)) (pw_and1 (pt_cmpR (show OpR _ _ (rEqD K) from op_eqD hr.units) (pe_lc (own := [("cost", 11)]) (g := (gName 11)) rfl sc.nd (pi_seq (pv 3)) (blkOk_by (N := ["script", "draw", "turn", "costs", "told", "columns", "goal", "raised", "more", "again", "first", "cost", "item", "column"]) (sc := defScope (top 62)) (by decide +kernel)) (fun _ _ _ _ _ => (pg_name (i := 11) sc.nd rfl (by first | exact Or.inl rfl | exact Or.inr rfl))) (fun _ _ _ _ _ => (pts_one (pt_cmpR op_lt (pv 11) pe_int (nomark _)))) (fun _ _ _ _ _ => pe_int)) (pe_lst pa_nil) (nomark _))))) (pss_one (ps_ret pe_bl)) pss_nil) (pss_one (ps_if (pt_cmpR (show OpR _ _ (rEqD K) from op_eqD hr.units) (pe_ix (show IxR _ (fun x y H Q => rIxL K x y H Q ∨ rIxT K x y H Q) from ix_any) (pv 4) pe_int (fun _ _ => rfl)) pe_str (nomark _)) (pss_cons (ps_set (i := 7) sc.nd rfl (by first | exact Or.inl rfl | exact Or.inr rfl) (pe_callTy (show CallR _ _ (rTupQ K) from cl_tuple) (by rfl) (tm "tuple" (by decide +kernel)) (by decide +kernel) (pa_cons (pe_lc (own := [("item", 12)]) (g := (gName 12)) rfl sc.nd (pi_seq (pv 6)) (blkOk_by (N := ["script", "draw", "turn", "costs", "told", "columns", "goal", "raised", "more", "again", "first", "cost", "item", "column"]) (sc := defScope (top 62)) (by decide +kernel)) (fun _ _ _ _ _ => (pg_name (i := 12) sc.nd rfl (by first | exact Or.inl rfl | exact Or.inr rfl))) (fun _ _ _ _ _ => pts_nil) (fun _ _ _ _ _ => (pe_op op_sub (pe_fO (ok_law_take T) (hr.mono (by decide)) (by rfl) 1 (pa_cons (pv 1) (pa_cons pe_int pa_nil))) pe_int))) pa_nil))) (pss_cons (ps_setLc (i := 8) (own := [("cost", 11), ("column", 13)]) (g := (gTup K 2 (gCons (gName 11) (gCons (gName 13) gNil)))) rfl sc.nd rfl rfl (sw_true rfl rfl rfl (by decide +kernel)) (pi_zipS rfl (tm "zip" (by decide +kernel)) (pa_cons (pv 3) (pa_cons (pv 5) pa_nil))) (blkOk_by (N := ["script", "draw", "turn", "costs", "told", "columns", "goal", "raised", "more", "again", "first", "cost", "item", "column"]) (sc := defScope (top 62)) (by decide +kernel)) (fun _ _ _ _ _ => (pg_tup (n := 2) rfl (pgs_cons (pg_name (i := 11) sc.nd rfl (by first | exact Or.inl rfl | exact Or.inr rfl)) (pgs_cons (pg_name (i := 13) sc.nd rfl (by first | exact Or.inl rfl | exact Or.inr rfl)) pgs_nil)))) (fun _ _ _ _ _ => pts_nil) (fun _ _ _ _ _ => (pe_op (show OpR _ _ (rbAdd K) from ob_add) (pv 11) (pe_f (ok_law_dot T) (hr.mono (by decide)) rfl (pa_cons (pv 7) (pa_cons (pv 13) pa_nil)))))) (pss_cons (ps_set (i := 9) sc.nd rfl (by first | exact Or.inl rfl | exact Or.inr rfl) (pe_f (ok_least_deal T) (hr.mono (by decide)) rfl (pa_cons (pe_callTy (show CallR _ _ (rTupQ K) from cl_tuple) (by rfl) (tm "tuple" (by decide +kernel)) (by decide +kernel) (pa_cons (pv 5) pa_nil)) (pa_cons (pe_callTy (show CallR _ _ (rTupQ K) from cl_tuple) (by rfl) (tm "tuple" (by decide +kernel)) (by decide +kernel) (pa_cons (pv 8) pa_nil)) (pa_cons (pv 6) pa_nil))))) (pss_cons (ps_if (PW.pt (pw_or (pt_cmpR (show OpR _ _ (rNeD K) from op_neD hr.units) (pe_ix (show IxR _ (fun x y H Q => rIxL K x y H Q ∨ rIxT K x y H Q) from ix_any) (pv 9) pe_int (fun _ _ => rfl)) pe_str (nomark _)) (pw_or1 (pt_not (pt_val (pe_f (ok_law_least_ok T) (hr.mono (by decide)) rfl (pa_cons (pv 5) (pa_cons (pv 8) (pa_cons (pv 6) (pa_cons (pv 9) pa_nil)))))))))) (pss_one (ps_ret pe_bl)) pss_nil) (pss_cons (ps_set (i := 10) sc.nd rfl (by first | exact Or.inl rfl | exact Or.inr rfl) (pe_op (show OpR _ _ (rbAdd K) from ob_add) (pe_op (show OpR _ _ (rbMul K) from ob_mul) (pe_f (ok_law_dot T) (hr.mono (by decide)) rfl (pa_cons (pv 3) (pa_cons (pe_ix (show IxR _ (fun x y H Q => rIxL K x y H Q ∨ rIxT K x y H Q) from ix_any) (pe_ix (show IxR _ (fun x y H Q => rIxL K x y H Q ∨ rIxT K x y H Q) from ix_any) (pv 4) pe_int (fun _ _ => rfl)) pe_int (fun _ _ => rfl)) pa_nil))) (pe_ix (show IxR _ (fun x y H Q => rIxL K x y H Q ∨ rIxT K x y H Q) from ix_any) (pe_ix (show IxR _ (fun x y H Q => rIxL K x y H Q ∨ rIxT K x y H Q) from ix_any) (pv 9) pe_int (fun _ _ => rfl)) pe_int (fun _ _ => rfl))) (pe_op (show OpR _ _ (rbMul K) from ob_mul) (pe_op (show OpR _ _ (rbMul K) from ob_mul) (pe_f (ok_law_dot T) (hr.mono (by decide)) rfl (pa_cons (pv 7) (pa_cons (pv 6) pa_nil))) (pe_ix (show IxR _ (fun x y H Q => rIxL K x y H Q ∨ rIxT K x y H Q) from ix_any) (pe_ix (show IxR _ (fun x y H Q => rIxL K x y H Q ∨ rIxT K x y H Q) from ix_any) (pv 4) pe_int (fun _ _ => rfl)) pe_int (fun _ _ => rfl))) (pe_ix (show IxR _ (fun x y H Q => rIxL K x y H Q ∨ rIxT K x y H Q) from ix_any) (pe_ix (show IxR _ (fun x y H Q => rIxL K x y H Q ∨ rIxT K x y H Q) from ix_any) (pv 9) pe_int (fun _ _ => rfl)) pe_int (fun _ _ => rfl))))) (pss_one (ps_if (pt_cmpR (show OpR _ _ (rNeD K) from op_neD hr.units) (pv 10) (pe_op (show OpR _ _ (rbMul K) from ob_mul) (pe_f (ok_law_dot T) (hr.mono (by decide)) rfl (pa_cons (pv 8) (pa_cons (pe_ix (show IxR _ (fun x y H Q => rIxL K x y H Q ∨ rIxT K x y H Q) from ix_any) (pe_ix (show IxR _ (fun x y H Q => rIxL K x y H Q ∨ rIxT K x y H Q) from ix_any) (pv 9) pe_int (fun _ _ => rfl)) pe_int (fun _ _ => rfl)) pa_nil))) (pe_ix (show IxR _ (fun x y H Q => rIxL K x y H Q ∨ rIxT K x y H Q) from ix_any) (pe_ix (show IxR _ (fun x y H Q => rIxL K x y H Q ∨ rIxT K x y H Q) from ix_any) (pv 4) pe_int (fun _ _ => rfl)) pe_int (fun _ _ => rfl))) (nomark _)) (pss_one (ps_ret pe_bl)) pss_nil))))))) pss_nil))))))))))) (pss_one (ps_ret pe_bl)))), s_body (ds := r_law K) inferInstance hS rfl (body_law K hl)⟩
section
variable {P : Program} {w : World} {K : PySem.W.Frag} {mg : Str → Option Value} {base : Heap}

end
end K04
open PySem PySem.W PySem.Calls PyProof.Rows
set_option Elab.async false
set_option maxRecDepth 100000 in
set_option maxHeartbeats 0 in
theorem PySem.Challenge.cw_pacerose_k04_whole_least_deals_and_their_holds : PySem.Challenge.rw_pacerose_k04_whole_least_deals_and_their.Holds := by
  w_on; o_law
  refine HandSHeadRun.head_imp (r := OpenLaw.row PySem.Challenge.rw_pacerose_k04_whole_least_deals_and_their) (q := view (OpenLaw.row PySem.Challenge.rw_pacerose_k04_whole_least_deals_and_their).prog [0, 62]) (H := K04.hk) (ob := K04.ob) (M := 20000) (loose := K04.loose) (d := HandSHeadRun.topDef (OpenLaw.row PySem.Challenge.rw_pacerose_k04_whole_least_deals_and_their).prog 62) (kwd := []) K04.ob_eq K04.run
    (by kernel_rfl) (by kernel_rfl) (by kernel_rfl) (by rfl) (by first | assumption | decide +kernel) (by decide +kernel) ⟨rfl, rfl, rfl, rfl, rfl, by decide +kernel⟩ ?hw ?hc
  case hw => w_witness2
  case hc =>
    refine Lf.walk_at (l := PySem.Challenge.rw_pacerose_k04_whole_least_deals_and_their) (n := 63) rfl (by decide) (by kernel_rfl) ?F
    intro w mg f h Y G hm0
    obtain ⟨K, KX, c⟩ := Y
    have T : K04.Top (PySem.Challenge.rw_pacerose_k04_whole_least_deals_and_their).prog w K mg := Lf.TopX.of KX G c
    have hm : mg ("law" : PySem.Str) = some (.ref f) := by
      have e : (HandSHeadRun.topDef (OpenLaw.row PySem.Challenge.rw_pacerose_k04_whole_least_deals_and_their).prog 62).name = ("law" : PySem.Str) := by kernel_rfl
      rw [← e]
      exact hm0
    have hg := T.glo "law" (Lf.mem_glo (by decide +kernel))
    rw [hm] at hg
    cases hg
    exact ⟨K, KX, fun base t G a ns kb nb hl e0 hS => K04.law_runs T hl e0 hS⟩
