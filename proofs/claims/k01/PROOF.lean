import PyProof.Rows.All
import Wide.All
import OpenK.AllK
import Wide.FinOn
import HandS.ForMost
import HandS.ForExc
import HandS.Evl
import HandS.IsInst
import HandS.TupAny
import HandS.TupMul
import HandS.MakeKwOnly
import HandS.Lambda
import HandS.WordsExc
import HandS.SlotsOwn
import HandS.OwnEq
import HandS.Conv
import PyProof.InstNe
import OpenK.KMeth
import OpenK.KOps
import PyProof.Rows.SeqMore
import HandS.Iter
import KE.KExcSuper
import PyProof.FString2
import HandS.ExcInit
import HandS.ExcSuper
import HandS.Defaults
import HandS.ExcOwn
import HandS.TryMany
import HandS.EndTab
import KE.KNestM
import KE.RegKIsAll
import KE.RegKTryMore
import KE.RegKSuper
import PySem.Challenge.RW_hearsayways_k01_whole_nets
set_option Elab.async false
set_option linter.all false
set_option maxRecDepth 100000
set_option maxHeartbeats 4000000
/-! data in place of addresses: what an expression, a test, a statement makes of pure data, whatever the heap -/
namespace Dl
open PySem L2
open Evl (Ex fresh_back sz_of sz_lt ex_l ex_t sq_of st_of)

/-! ### data -/
inductive D where
  | py (d : PyData)
  | obj (c : Nat) (fs : List (Str × PyData))
  | ty (n : String)
  | cls (c : Nat)
  | «at» (a : Addr)
  | dct (kvs : List (Str × PyData))
structure Wd where
  K : PySem.W.Frag
  cl : Nat → Addr
mutual
theorem dp_mono {K : PySem.W.Frag} {H H' : Hp} (e : Ex H H') : ∀ {v : V} {d : PyData}, Dp K H v d → Dp K H' v d
  | _, _, .non => .non
  | _, _, .bl b => .bl b
  | _, _, .int i => .int i
  | _, _, .str x => .str x
  | _, _, .lst h a => .lst (ex_l e h) (dpa_mono e a)
  | _, _, .tup h a => .tup (ex_t e h) (dpa_mono e a)
theorem dpa_mono {K : PySem.W.Frag} {H H' : Hp} (e : Ex H H') : ∀ {vs : List V} {ds : List PyData}, DpAll K H vs ds → DpAll K H' vs ds
  | _, _, .nil => .nil
  | _, _, .cons h t => .cons (dp_mono e h) (dpa_mono e t)
end
theorem DpAll.len {K : PySem.W.Frag} {H : Hp} : ∀ {vs : List V} {ds : List PyData}, DpAll K H vs ds → vs.length = ds.length
  | _, _, .nil => rfl
  | _, _, .cons _ t => congrArg Nat.succ (DpAll.len t)
theorem DpAll.get {K : PySem.W.Frag} {H : Hp} : ∀ {vs : List V} {ds : List PyData} {i : Nat} {d : PyData}, DpAll K H vs ds → ds[i]? = some d → ∃ v, vs[i]? = some v ∧ Dp K H v d
  | _, _, _, _, .nil, e => by simp at e
  | _, _, 0, _, .cons h _, e => by simp at e; subst e; exact ⟨_, rfl, h⟩
  | _, _, i + 1, d, .cons _ t, e => by
    obtain ⟨v, h1, h2⟩ := DpAll.get (i := i) (d := d) t (by simpa using e)
    exact ⟨v, by simpa using h1, h2⟩
theorem DpAll.getV {K : PySem.W.Frag} {H : Hp} : ∀ {vs : List V} {ds : List PyData} {i : Nat} {v : V}, DpAll K H vs ds → vs[i]? = some v → ∃ d, ds[i]? = some d ∧ Dp K H v d
  | _, _, _, _, .nil, e => by simp at e
  | _, _, 0, _, .cons h _, e => by simp at e; subst e; exact ⟨_, rfl, h⟩
  | _, _, i + 1, v, .cons _ t, e => by
    obtain ⟨d, h1, h2⟩ := DpAll.getV (i := i) (v := v) t (by simpa using e)
    exact ⟨d, by simpa using h1, h2⟩
theorem DpAll.app {K : PySem.W.Frag} {H : Hp} : ∀ {vs ws : List V} {ds es : List PyData}, DpAll K H vs ds → DpAll K H ws es → DpAll K H (vs ++ ws) (ds ++ es)
  | _, _, _, _, .nil, t => t
  | _, _, _, _, .cons h r, t => .cons h (DpAll.app r t)
theorem DpAll.take {K : PySem.W.Frag} {H : Hp} : ∀ {vs : List V} {ds : List PyData} (n : Nat), DpAll K H vs ds → DpAll K H (vs.take n) (ds.take n)
  | _, _, 0, _ => by simp; exact .nil
  | _, _, _ + 1, .nil => .nil
  | _, _, n + 1, .cons h t => .cons h (DpAll.take n t)
theorem DpAll.drop {K : PySem.W.Frag} {H : Hp} : ∀ {vs : List V} {ds : List PyData} (n : Nat), DpAll K H vs ds → DpAll K H (vs.drop n) (ds.drop n)
  | _, _, 0, h => h
  | _, _, _ + 1, .nil => .nil
  | _, _, n + 1, .cons _ t => DpAll.drop n t

def RelD (W : Wd) (H : Hp) (v : V) : D → Prop
  | .py d => Dp W.K H v d
  | .obj c fs => ∃ a dx gs, v = .ref a ∧ H a = some (.ins (W.cl c) dx gs) ∧ Paired (fun (p : Str × V) (q : Str × PyData) => p.1 = q.1 ∧ Dp W.K H p.2 q.2) gs fs
  | .ty n => v = .ty n
  | .cls c => v = .ref (W.cl c)
  | .at a => v = .ref a
  | .dct kvs => ∃ a gs, v = .ref a ∧ H a = some (.dK gs) ∧ Paired (fun (p : Key × V) (q : Str × PyData) => p.1 = .inr q.1 ∧ Dp W.K H p.2 q.2) gs kvs
theorem RelD.mono {W : Wd} {H H' : Hp} {v : V} {d : D} (r : RelD W H v d) (e : Ex H H') : RelD W H' v d := by
  cases d with
  | py d => exact dp_mono e r
  | obj c fs =>
    obtain ⟨a, dx, gs, e1, h, p⟩ := r
    exact ⟨a, dx, gs, e1, e _ _ h, Paired.mapP p fun _ _ z => ⟨z.1, dp_mono e z.2⟩⟩
  | ty n => exact r
  | cls c => exact r
  | «at» a => exact r
  | dct kvs =>
    obtain ⟨a, gs, e1, h, p⟩ := r
    exact ⟨a, gs, e1, e _ _ h, Paired.mapP p fun _ _ z => ⟨z.1, dp_mono e z.2⟩⟩
abbrev RelA (W : Wd) (H : Hp) : List V → List D → Prop := Paired (RelD W H)
theorem RelA.mono {W : Wd} {H H' : Hp} {vs : List V} {ds : List D} (r : RelA W H vs ds) (e : Ex H H') : RelA W H' vs ds := Paired.mapP r fun _ _ z => z.mono e

/-! ### steps of two heaps: P, what the data stands on, within H -/
structure Step (P H P' H' : Hp) : Prop where
  pp : Ex P P'
  ph : Ex P' H'
  hh : Ex H H'
  nw : ∀ a o, H a = some o → P' a = P a
  nt : ∀ a ps, P' a = some (.tbl ps) → P a = some (.tbl ps)
theorem Step.refl {P H : Hp} (e : Ex P H) : Step P H P H := ⟨Ex.refl P, e, Ex.refl H, fun _ _ _ => rfl, fun _ _ h => h⟩
theorem Step.trans {P H P1 H1 P2 H2 : Hp} (a : Step P H P1 H1) (b : Step P1 H1 P2 H2) : Step P H P2 H2 :=
  ⟨a.pp.trans b.pp, b.ph, a.hh.trans b.hh, fun x o h => (b.nw x o (a.hh x o h)).trans (a.nw x o h), fun x ps h => a.nt x ps (b.nt x ps h)⟩
theorem Step.new {P H : Hp} {p : Addr} {o : HO} (e : Ex P H) (hn : H p = none) (ht : ∀ ps, o ≠ .tbl ps := by intro ps z; cases z) : Step P H (upd P p o) (upd H p o) := by
  refine ⟨Ex.new (fresh_back e hn), fun a u h => ?_, Ex.new hn, fun a u h => ?_, fun a ps h => ?_⟩
  · by_cases ha : a = p
    · subst ha
      rw [upd_same] at h ⊢
      exact h
    · rw [upd_ne ha] at h ⊢
      exact e a u h
  · rw [upd_ne (ne_of_none h hn)]
  · by_cases ha : a = p
    · subst ha
      rw [upd_same] at h
      exact absurd (Option.some.inj h) (ht ps)
    · rw [upd_ne ha] at h
      exact h

/-! ### slots -/
abbrev DS := List (Option D)
structure EnvD (W : Wd) (ds : DS) (σ : St) (P : Hp) : Prop where
  len : σ.length = ds.length
  get : ∀ (i : Nat) (d : D), ds[i]? = some (some d) → ∃ v, σ[i]? = some (some v) ∧ RelD W P v d
theorem EnvD.mono {W : Wd} {ds : DS} {σ : St} {P P' : Hp} (h : EnvD W ds σ P) (e : Ex P P') : EnvD W ds σ P' :=
  ⟨h.len, fun i d q => let ⟨v, a, b⟩ := h.get i d q; ⟨v, a, b.mono e⟩⟩
theorem EnvD.set {W : Wd} {ds : DS} {σ : St} {P : Hp} (h : EnvD W ds σ P) (j : Nat) {v : V} {d : D} (r : RelD W P v d) : EnvD W (ds.set j (some d)) (σ.set j (some v)) P := by
  refine ⟨by rw [List.length_set, List.length_set]; exact h.len, fun i e q => ?_⟩
  by_cases hj : j = i
  · subst hj
    rw [List.getElem?_set] at q ⊢
    simp only [if_true] at q ⊢
    split at q
    · rename_i hl
      have q := Option.some.inj (Option.some.inj q)
      subst q
      rw [if_pos (by rw [h.len]; exact hl)]
      exact ⟨v, rfl, r⟩
    · cases q
  · rw [List.getElem?_set_ne hj] at q ⊢
    exact h.get i e q
theorem EnvD.wipe {W : Wd} {ds : DS} {σ : St} {P : Hp} (h : EnvD W ds σ P) (j : Nat) : EnvD W (ds.set j none) (σ.set j none) P := by
  refine ⟨by rw [List.length_set, List.length_set]; exact h.len, fun i e q => ?_⟩
  by_cases hj : j = i
  · subst hj
    rw [List.getElem?_set] at q
    simp only [if_true] at q
    split at q <;> cases q
  · rw [List.getElem?_set_ne hj] at q ⊢
    exact h.get i e q
/-- a slot of which nothing is known any more -/
theorem EnvD.forget {W : Wd} {ds : DS} {σ : St} {P : Hp} (h : EnvD W ds σ P) (j : Nat) (x : Option V) : EnvD W (ds.set j none) (σ.set j x) P := by
  refine ⟨by rw [List.length_set, List.length_set]; exact h.len, fun i e q => ?_⟩
  by_cases hj : j = i
  · subst hj
    rw [List.getElem?_set] at q
    simp only [if_true] at q
    split at q <;> cases q
  · rw [List.getElem?_set_ne hj] at q ⊢
    exact h.get i e q
def startD (N : List Str) (ds : List D) : DS := ds.map some ++ List.replicate (N.length - ds.length) none
theorem RelA.get {W : Wd} {H : Hp} : ∀ {vs : List V} {ds : List D} {i : Nat} {d : D}, RelA W H vs ds → ds[i]? = some d → ∃ v, vs[i]? = some v ∧ RelD W H v d
  | _, _, _, _, .nil, e => by simp at e
  | _, _, 0, _, .cons h _, e => by simp at e; subst e; exact ⟨_, rfl, h⟩
  | _, _, i + 1, d, .cons _ t, e => by
    obtain ⟨v, h1, h2⟩ := RelA.get (i := i) (d := d) t (by simpa using e)
    exact ⟨v, by simpa using h1, h2⟩
theorem EnvD.start {W : Wd} {P : Hp} {N : List Str} {vs : List V} {ds : List D} (r : RelA W P vs ds) : EnvD W (startD N ds) (start N vs) P := by
  have hl := Paired.length r
  refine ⟨by unfold startD L2.start; simp [hl], fun i d q => ?_⟩
  unfold startD at q
  unfold L2.start
  by_cases hi : i < ds.length
  · rw [List.getElem?_append_left (by simpa using hi), List.getElem?_map] at q
    cases e : ds[i]? with
    | none => rw [e] at q; cases q
    | some z =>
      rw [e] at q
      have q := Option.some.inj (Option.some.inj q)
      subst q
      obtain ⟨v, h1, h2⟩ := r.get e
      refine ⟨v, ?_, h2⟩
      rw [List.getElem?_append_left (by rw [List.length_map, hl]; exact hi), List.getElem?_map, h1]
      rfl
  · rw [List.getElem?_append_right (by simpa using hi), List.getElem?_replicate] at q
    split at q <;> cases q

/-! ### what is made of data -/
def ED (W : Wd) (te : TE) (ds : DS) (d : D) : Prop := ∀ (σ : St) (P H : Hp), Ex P H → EnvD W ds σ P → ∀ Q : VK, (∀ v P' H', Step P H P' H' → RelD W P' v d → Q v H') → te σ H Q
def ET (W : Wd) (tt : TT) (ds : DS) (b : Bool) : Prop := ∀ (σ : St) (P H : Hp), Ex P H → EnvD W ds σ P → ∀ Q : Bool → Hp → Prop, (∀ P' H', Step P H P' H' → Q b H') → tt σ H Q
def EA (W : Wd) (ta : TA) (ds : DS) (l : List D) : Prop := ∀ (σ : St) (P H : Hp), Ex P H → EnvD W ds σ P → ∀ Q : List V → Hp → Prop, (∀ vs P' H', Step P H P' H' → RelA W P' vs l → Q vs H') → ta σ H Q
def EO (W : Wd) (to : TO) (ds : DS) (o : Option Int) : Prop := ∀ (σ : St) (P H : Hp), Ex P H → EnvD W ds σ P → ∀ Q : Option Int → Hp → Prop, (∀ P' H', Step P H P' H' → Q o H') → to σ H Q
def RD2 (W : Wd) (r : R2) (x y z : D) : Prop := ∀ (P H : Hp) (v w : V), Ex P H → RelD W P v x → RelD W P w y → ∀ Q : VK, (∀ u P' H', Step P H P' H' → RelD W P' u z → Q u H') → r v w H Q
def RDA (W : Wd) (r : List V → Hp → VK → Prop) (l : List D) (z : D) : Prop := ∀ (P H : Hp) (vs : List V), Ex P H → RelA W P vs l → ∀ Q : VK, (∀ u P' H', Step P H P' H' → RelD W P' u z → Q u H') → r vs H Q
abbrev pI (i : Int) : D := .py (.int i)
abbrev pB (b : Bool) : D := .py (.bool b)
abbrev pS (s : Str) : D := .py (.str s)
abbrev pN : D := .py .none
abbrev pT (l : List PyData) : D := .py (.tuple l)
abbrev pL (l : List PyData) : D := .py (.list l)
section
variable {W : Wd} {ds ds1 ds2 : DS} {ta tb tc te : TE} {t u : TT} {x y z d : D}
theorem ed_var {i : Nat} (h : ds[i]? = some (some d)) : ED W (tVar i) ds d := fun σ P H e env Q q => by
  obtain ⟨v, h1, h2⟩ := env.get i d h
  exact ⟨v, h1, q v P H (Step.refl e) h2⟩
theorem ed_c {v : V} (h : ∀ P, RelD W P v d) : ED W (tC v) ds d := fun σ P H e env Q q => q v P H (Step.refl e) (h P)
theorem ed_int {i : Int} : ED W (tC (.int i)) ds (pI i) := ed_c fun _ => Dp.int i
theorem ed_bl {b : Bool} : ED W (tC (.bl b)) ds (pB b) := ed_c fun _ => Dp.bl b
theorem ed_str {s : Str} : ED W (tC (.str s)) ds (pS s) := ed_c fun _ => Dp.str s
theorem ed_non : ED W (tC .non) ds pN := ed_c fun _ => Dp.non
theorem ed_ty {n : String} : ED W (tC (.ty n)) ds (.ty n) := ed_c fun _ => rfl
theorem ed_op {r : R2} (ha : ED W ta ds x) (hb : ED W tb ds y) (hr : RD2 W r x y z) : ED W (tOp r ta tb) ds z := fun σ P H e env Q q =>
  ha σ P H e env _ fun v P1 H1 s1 r1 => hb σ P1 H1 s1.ph (env.mono s1.pp) _ fun w P2 H2 s2 r2 => hr P2 H2 v w s2.ph (r1.mono s2.pp) r2 Q fun u P3 H3 s3 r3 => q u P3 H3 ((s1.trans s2).trans s3) r3
theorem ea_nil : EA W tNil ds [] := fun σ P H e env Q q => q [] P H (Step.refl e) .nil
theorem ea_cons {tr : TA} {l : List D} (ha : ED W ta ds x) (hr : EA W tr ds l) : EA W (tCons ta tr) ds (x :: l) := fun σ P H e env Q q =>
  ha σ P H e env _ fun v P1 H1 s1 r1 => hr σ P1 H1 s1.ph (env.mono s1.pp) _ fun vs P2 H2 s2 r2 => q (v :: vs) P2 H2 (s1.trans s2) (.cons (r1.mono s2.pp) r2)
theorem ed_cb {r : List V → Hp → VK → Prop} {tr : TA} {l : List D} (ha : EA W tr ds l) (hr : RDA W r l z) : ED W (tCB r tr) ds z := fun σ P H e env Q q =>
  ha σ P H e env _ fun vs P1 H1 s1 r1 => hr P1 H1 vs s1.ph r1 Q fun u P2 H2 s2 r2 => q u P2 H2 (s1.trans s2) r2
/-! promises of pure defs -/
def spD (W : Wd) (F : List D → Option D) : Sp := fun vs H Q _ => ∃ P l d, Ex P H ∧ RelA W P vs l ∧ F l = some d ∧ ∀ v P' H', Step P H P' H' → RelD W P' v d → Q v H'
theorem ed_call {F : List D → Option D} {E : XK} {tr : TA} {l : List D} (ha : EA W tr ds l) (hF : F l = some z) : ED W (tCall (spD W F) [] E tr) ds z := fun σ P H e env Q q =>
  ha σ P H e env _ fun vs P1 H1 s1 r1 => ⟨P1, l, z, s1.ph, by rw [List.append_nil]; exact r1, hF, fun v P2 H2 s2 r2 => q v P2 H2 (s1.trans s2) r2⟩
theorem ed_un {r : V → Hp → VK → Prop} (ha : ED W ta ds x) (hr : ∀ (P H : Hp) (v : V), Ex P H → RelD W P v x → ∀ Q : VK, (∀ u P' H', Step P H P' H' → RelD W P' u z → Q u H') → r v H Q) : ED W (tUn r ta) ds z := fun σ P H e env Q q =>
  ha σ P H e env _ fun v P1 H1 s1 r1 => hr P1 H1 v s1.ph r1 Q fun u P2 H2 s2 r2 => q u P2 H2 (s1.trans s2) r2
theorem ed_neg {i : Int} (ha : ED W ta ds (pI i)) : ED W (tUn (rU fun i => .int (-i)) ta) ds (pI (-i)) := ed_un ha fun P H v e r Q q => by
  cases r
  exact ⟨i, rfl, q _ P H (Step.refl e) (Dp.int _)⟩

/-! tests -/
theorem et_test {b : Bool} (h : ED W te ds (pB b)) : ET W (tTest te) ds b := fun σ P H e env Q q => h σ P H e env _ fun v P1 H1 s1 r1 => by
  cases r1
  exact ⟨b, rfl, q P1 H1 s1⟩
theorem et_B {b : Bool} (h : ED W te ds (pB b)) : ET W (tB te) ds b := fun σ P H e env Q q => h σ P H e env _ fun v P1 H1 s1 r1 => by
  cases r1
  exact ⟨b, rfl, q P1 H1 s1⟩
theorem et_and {a b : Bool} (h1 : ET W t ds a) (h2 : a = true → ET W u ds b) : ET W (tAnd t u) ds (a && b) := fun σ P H e env Q q => h1 σ P H e env _ fun P1 H1 s1 => by
  cases a with
  | true => exact h2 rfl σ P1 H1 s1.ph (env.mono s1.pp) Q fun P2 H2 s2 => q P2 H2 (s1.trans s2)
  | false => exact q P1 H1 s1
theorem et_or {a b : Bool} (h1 : ET W t ds a) (h2 : a = false → ET W u ds b) : ET W (tOr t u) ds (a || b) := fun σ P H e env Q q => h1 σ P H e env _ fun P1 H1 s1 => by
  cases a with
  | true => exact q P1 H1 s1
  | false => exact h2 rfl σ P1 H1 s1.ph (env.mono s1.pp) Q fun P2 H2 s2 => q P2 H2 (s1.trans s2)
theorem et_not {a : Bool} (h1 : ET W t ds a) : ET W (tNot t) ds (!a) := fun σ P H e env Q q => h1 σ P H e env _ fun P1 H1 s1 => q P1 H1 s1
theorem ed_andV {a b : Bool} (h1 : ED W ta ds (pB a)) (h2 : a = true → ED W tb ds (pB b)) : ED W (tAndV ta tb) ds (pB (a && b)) := fun σ P H e env Q q => h1 σ P H e env _ fun v P1 H1 s1 r1 => by
  cases r1
  refine ⟨a, rfl, ?_⟩
  cases a with
  | true => exact h2 rfl σ P1 H1 s1.ph (env.mono s1.pp) Q fun v P2 H2 s2 r2 => q v P2 H2 (s1.trans s2) r2
  | false => exact q _ P1 H1 s1 (Dp.bl _)
theorem ed_orV {a b : Bool} (h1 : ED W ta ds (pB a)) (h2 : a = false → ED W tb ds (pB b)) : ED W (tOrV ta tb) ds (pB (a || b)) := fun σ P H e env Q q => h1 σ P H e env _ fun v P1 H1 s1 r1 => by
  cases r1
  refine ⟨a, rfl, ?_⟩
  cases a with
  | true => exact q _ P1 H1 s1 (Dp.bl _)
  | false => exact h2 rfl σ P1 H1 s1.ph (env.mono s1.pp) Q fun v P2 H2 s2 r2 => q v P2 H2 (s1.trans s2) r2
theorem ed_notV {a : Bool} (h1 : ED W ta ds (pB a)) : ED W (tNotV ta) ds (pB (!a)) := fun σ P H e env Q q => h1 σ P H e env _ fun v P1 H1 s1 r1 => by
  cases r1
  exact ⟨a, rfl, q _ P1 H1 s1 (Dp.bl _)⟩
theorem ed_if {b : Bool} (h : ET W t ds b) (h1 : b = true → ED W ta ds d) (h2 : b = false → ED W tb ds d) : ED W (tIf t ta tb) ds d := fun σ P H e env Q q => h σ P H e env _ fun P1 H1 s1 => by
  cases b with
  | true => exact h1 rfl σ P1 H1 s1.ph (env.mono s1.pp) Q fun v P2 H2 s2 r2 => q v P2 H2 (s1.trans s2) r2
  | false => exact h2 rfl σ P1 H1 s1.ph (env.mono s1.pp) Q fun v P2 H2 s2 r2 => q v P2 H2 (s1.trans s2) r2
theorem ED.cast {d' : D} (h : ED W te ds d) (e : d = d') : ED W te ds d' := e ▸ h
theorem ET.cast {a b : Bool} (h : ET W t ds a) (e : a = b) : ET W t ds b := e ▸ h
/-- a < b < c -/
theorem ed_chain {r r' : R2} {k : Bool} {w : D} (ha : ED W ta ds x) (hb : ED W tb ds y) (hr : RD2 W r x y (pB k)) (hc : k = true → ED W tc ds w) (hr' : k = true → RD2 W r' y w z) (h0 : k = false → z = pB false) : ED W (tChain r r' ta tb tc) ds z := fun σ P H e env Q q =>
  ha σ P H e env _ fun v P1 H1 s1 r1 => hb σ P1 H1 s1.ph (env.mono s1.pp) _ fun w' P2 H2 s2 r2 => hr P2 H2 v w' s2.ph (r1.mono s2.pp) r2 _ fun u P3 H3 s3 r3 => by
    cases r3
    refine ⟨k, rfl, ?_⟩
    have s13 := (s1.trans s2).trans s3
    cases k with
    | true =>
      refine hc rfl σ P3 H3 s3.ph (env.mono s13.pp) _ fun w2 P4 H4 s4 r4 => ?_
      exact hr' rfl P4 H4 w' w2 s4.ph (r2.mono (s3.trans s4).pp) r4 Q fun u P5 H5 s5 r5 => q u P5 H5 ((s13.trans s4).trans s5) r5
    | false =>
      refine q _ P3 H3 s13 ?_
      rw [h0 rfl]
      exact Dp.bl _

/-! operations -/
theorem rd_I {f : Int → Int → Int} {i j : Int} : RD2 W (rI0 fun i j => .int (f i j)) (pI i) (pI j) (pI (f i j)) := fun P H v w e r1 r2 Q q => by
  cases r1; cases r2
  exact ⟨i, j, rfl, rfl, q _ P H (Step.refl e) (Dp.int _)⟩
theorem rd_IB {f : Int → Int → Bool} {i j : Int} : RD2 W (rI0 fun i j => .bl (f i j)) (pI i) (pI j) (pB (f i j)) := fun P H v w e r1 r2 Q q => by
  cases r1; cases r2
  exact ⟨i, j, rfl, rfl, q _ P H (Step.refl e) (Dp.bl _)⟩
theorem rd_IC {C : Int → Int → Prop} {f : Int → Int → Int} {i j : Int} (hc : C i j) : RD2 W (rI C fun i j => .int (f i j)) (pI i) (pI j) (pI (f i j)) := fun P H v w e r1 r2 Q q => by
  cases r1; cases r2
  exact ⟨i, j, rfl, rfl, hc, q _ P H (Step.refl e) (Dp.int _)⟩
theorem rd_eqD {a b : PyData} (ha : SeqAt.shaped a = true) (hb : SeqAt.shaped b = true) : RD2 W (rEqD W.K) (.py a) (.py b) (pB (PyData.eqv a b)) := fun P H v w e r1 r2 Q q =>
  ⟨a, b, dp_mono e r1, dp_mono e r2, ha, hb, q _ P H (Step.refl e) (Dp.bl _)⟩
theorem rd_neD {a b : PyData} (ha : SeqAt.shaped a = true) (hb : SeqAt.shaped b = true) : RD2 W (rNeD W.K) (.py a) (.py b) (pB (!PyData.eqv a b)) := fun P H v w e r1 r2 Q q =>
  ⟨a, b, dp_mono e r1, dp_mono e r2, ha, hb, q _ P H (Step.refl e) (Dp.bl _)⟩
def isNon : D → Bool
  | .py .none => true
  | _ => false
theorem relD_non {P : Hp} {v : V} (r : RelD W P v x) : decide (v = .non) = isNon x := by
  cases x with
  | py d => cases r <;> simp [isNon]
  | obj c fs => obtain ⟨a, dx, gs, e, _⟩ := r; subst e; simp [isNon]
  | ty n => cases r; simp [isNon]
  | cls c => cases r; simp [isNon]
  | «at» a => cases r; simp [isNon]
  | dct kvs => obtain ⟨a, gs, e, _⟩ := r; subst e; simp [isNon]
theorem rd_isN : RD2 W (fun x y H Q => y = .non ∧ Q (.bl (decide (x = .non))) H) x pN (pB (isNon x)) := fun P H v w e r1 r2 Q q => by
  cases r2
  refine ⟨rfl, ?_⟩
  rw [relD_non r1]
  exact q _ P H (Step.refl e) (Dp.bl _)
theorem rd_notN : RD2 W (fun x y H Q => y = .non ∧ Q (.bl (!decide (x = .non))) H) x pN (pB (!isNon x)) := fun P H v w e r1 r2 Q q => by
  cases r2
  refine ⟨rfl, ?_⟩
  rw [relD_non r1]
  exact q _ P H (Step.refl e) (Dp.bl _)
theorem ixN_len {n m : Nat} (h : n = m) (i : Int) : ixN n i = ixN m i := by rw [h]
theorem DpAll.atI {K : PySem.W.Frag} {H : Hp} {vs : List V} {l : List PyData} {i : Int} {d : PyData} (r : DpAll K H vs l) (h : L2.atI l i = some d) : ∃ v, L2.atI vs i = some v ∧ Dp K H v d := by
  unfold L2.atI at h ⊢
  rw [DpAll.len r]
  cases e : ixN l.length i with
  | none => rw [e] at h; cases h
  | some j =>
    rw [e] at h
    exact DpAll.get r h
theorem rd_ixT {l : List PyData} {i : Int} {d : PyData} (h : L2.atI l i = some d) : RD2 W (rIxT W.K) (pT l) (pI i) (.py d) := fun P H v w e r1 r2 Q q => by
  cases r2
  cases r1 with
  | @tup a xs _ hs ha =>
    obtain ⟨v, h1, h2⟩ := DpAll.atI ha h
    exact ⟨a, xs, i, v, rfl, rfl, ex_t e hs, h1, q v P H (Step.refl e) h2⟩
theorem rd_ixL {l : List PyData} {i : Int} {d : PyData} (h : L2.atI l i = some d) : RD2 W (rIxL W.K) (pL l) (pI i) (.py d) := fun P H v w e r1 r2 Q q => by
  cases r2
  cases r1 with
  | @lst a xs _ hs ha =>
    obtain ⟨v, h1, h2⟩ := DpAll.atI ha h
    exact ⟨a, xs, i, v, rfl, rfl, ex_l e hs, h1, q v P H (Step.refl e) h2⟩
theorem sz_dp {n : Nat} (h : n ≤ 1000000) : n ≤ sizeLine := Nat.le_trans h (by decide)
/-- displays -/
theorem ed_tup {tr : TA} {l : List PyData} (h : EA W tr ds (l.map D.py)) (hl : l.length ≤ 100000) : ED W (tTup tr) ds (pT l) := fun σ P H e env Q q =>
  h σ P H e env _ fun vs P1 H1 s1 r1 => by
    have hn : vs.length = l.length := by rw [Paired.length r1, List.length_map]
    have da : DpAll W.K P1 vs l := by
      clear q hn h
      induction l generalizing vs with
      | nil => cases r1; exact .nil
      | cons a l ih => cases r1 with
        | cons h t => exact .cons h (ih (by simp at hl ⊢; omega) _ t)
    refine ⟨by rw [hn]; exact sz_dp (by omega), fun p hp => ?_⟩
    have st := Step.new (o := .tup vs) s1.ph hp
    exact q _ _ _ (s1.trans st) (Dp.tup (st_of upd_same) (dpa_mono st.pp da))
theorem ed_lst {tr : TA} {l : List PyData} (h : EA W tr ds (l.map D.py)) (hl : l.length ≤ 100000) : ED W (tLst tr) ds (pL l) := fun σ P H e env Q q =>
  h σ P H e env _ fun vs P1 H1 s1 r1 => by
    have hn : vs.length = l.length := by rw [Paired.length r1, List.length_map]
    have da : DpAll W.K P1 vs l := by
      clear q hn h
      induction l generalizing vs with
      | nil => cases r1; exact .nil
      | cons a l ih => cases r1 with
        | cons h t => exact .cons h (ih (by simp at hl ⊢; omega) _ t)
    refine ⟨by rw [hn]; exact sz_dp (by omega), fun p hp => ?_⟩
    have st := Step.new (o := .lst vs) s1.ph hp
    exact q _ _ _ (s1.trans st) (Dp.lst (sq_of upd_same) (dpa_mono st.pp da))
/-- len -/
def lenD : PyData → Option Int
  | .tuple l => some l.length
  | .list l => some l.length
  | _ => none
theorem rda_len {a : PyData} {n : Int} (h : lenD a = some n) : RDA W (fun xs H Q => ∃ p ys, xs = [.ref p] ∧ (SqL W.K H p ys ∨ SqT W.K H p ys) ∧ Q (.int ys.length) H) [.py a] (pI n) := fun P H vs e r Q q => by
  cases r with
  | cons r1 r2 =>
    cases r2
    cases r1 with
    | @lst p xs l hs ha =>
      have z := DpAll.len ha
      have h := Option.some.inj h
      refine ⟨p, xs, rfl, .inl (ex_l e hs), ?_⟩
      rw [z, h]
      exact q _ P H (Step.refl e) (Dp.int _)
    | @tup p xs l hs ha =>
      have z := DpAll.len ha
      have h := Option.some.inj h
      refine ⟨p, xs, rfl, .inr (ex_t e hs), ?_⟩
      rw [z, h]
      exact q _ P H (Step.refl e) (Dp.int _)
    | _ => cases h
/-- all -/
theorem dpa_bools {K : PySem.W.Frag} {H : Hp} : ∀ {bs : List Bool} {vs : List V}, DpAll K H vs (bs.map PyData.bool) → vs = bs.map V.bl
  | [], _, h => by cases h; rfl
  | b :: bs, _, h => by
    cases h with
    | cons h t =>
      cases h
      rw [dpa_bools t]
      rfl
theorem rda_all {bs : List Bool} : RDA W (rAll W.K) [pL (bs.map PyData.bool)] (pB (bs.all id)) := fun P H vs e r Q q => by
  cases r with
  | cons r1 r2 =>
    cases r2
    cases r1 with
    | @lst p xs l hs ha =>
      have z := dpa_bools ha
      subst z
      exact ⟨p, bs, rfl, ex_l e hs, q _ P H (Step.refl e) (Dp.bl _)⟩
/-- isinstance of data -/
def tyD : PyData → String
  | .none => "NoneType"
  | .bool _ => "bool"
  | .int _ => "int"
  | .str _ => "str"
  | .list _ => "list"
  | .tuple _ => "tuple"
  | .dict _ => "dict"
theorem tyx {K : PySem.W.Frag} {H : Hp} {v : V} {a : PyData} (r : Dp K H v a) : TyX K H v (.type (tyD a)) := by
  cases r with
  | non => exact .base .non
  | bl b => exact .base (.bl b)
  | int i => exact .base (.int i)
  | str x => exact .base (.str x)
  | lst h _ =>
    rcases h with (h | ⟨o, h⟩) | ⟨o, _, _, h, c, _⟩
    · exact .base (.lst h)
    · exact .base (.frz h)
    · exact .kList h c
  | tup h _ =>
    rcases h with (h | ⟨o, h⟩) | ⟨o, _, _, h, c, _⟩
    · exact .base (.tup h)
    · exact .fTuple h
    · exact .kTuple h c
theorem rda_isi {a : PyData} {n : String} {b : Bool} (h : kitB (tyD a) n = some b) : RDA W (rIsi W.K) [.py a, .ty n] (pB b) := fun P H vs e r Q q => by
  cases r with
  | cons r1 r2 =>
    cases r2 with
    | cons r2 r3 =>
      cases r3
      cases r2
      exact ⟨_, _, _, _, b, rfl, .ty n, tyx (dp_mono e r1), kit_ty h, q _ P H (Step.refl e) (Dp.bl _)⟩
end

/-! ### statements -/
inductive Out where
  | nx (ds : DS)
  | rt (d : D)
def Outs (W : Wd) (P H : Hp) (E : Ends) : Out → Prop
  | .nx ds => ∀ σ' P' H', Step P H P' H' → EnvD W ds σ' P' → E.nx σ' H'
  | .rt d => ∀ v P' H', Step P H P' H' → RelD W P' v d → E.rt v H'
def SD (W : Wd) (ts : TS) (ds : DS) (o : Out) : Prop := ∀ (σ : St) (P H : Hp) (E : Ends), Ex P H → EnvD W ds σ P → Outs W P H E o → ts E σ H
theorem Outs.step {W : Wd} {P H P1 H1 : Hp} {E : Ends} {o : Out} (h : Outs W P H E o) (s : Step P H P1 H1) : Outs W P1 H1 E o := by
  cases o with
  | nx ds => exact fun σ' P' H' s' env => h σ' P' H' (s.trans s') env
  | rt d => exact fun v P' H' s' r => h v P' H' (s.trans s') r
theorem Outs.rtOf {W : Wd} {P H : Hp} {E : Ends} {d : D} {n : St → Hp → Prop} (h : Outs W P H E (.rt d)) : Outs W P H { E with nx := n } (.rt d) := h
section
variable {W : Wd} {ds ds1 : DS} {ta te : TE} {t : TT} {t1 t2 : TS} {d : D} {o : Out}
theorem sd_next : SD W tNext ds (.nx ds) := fun σ P H E e env k => k σ P H (Step.refl e) env
theorem sd_seq (h1 : SD W t1 ds (.nx ds1)) (h2 : SD W t2 ds1 o) : SD W (tSeq t1 t2) ds o := fun σ P H E e env k =>
  h1 σ P H { E with nx := t2 E } e env fun σ1 P1 H1 s1 env1 => h2 σ1 P1 H1 E s1.ph env1 (k.step s1)
theorem sd_seqR (h1 : SD W t1 ds (.rt d)) : SD W (tSeq t1 t2) ds (.rt d) := fun σ P H E e env k => h1 σ P H { E with nx := t2 E } e env k
theorem sd_if {b : Bool} (h : ET W t ds b) (h1 : b = true → SD W t1 ds o) (h2 : b = false → SD W t2 ds o) : SD W (tIfS t t1 t2) ds o := fun σ P H E e env k =>
  h σ P H e env _ fun P1 H1 s1 => by
    cases b with
    | true => exact h1 rfl σ P1 H1 E s1.ph (env.mono s1.pp) (k.step s1)
    | false => exact h2 rfl σ P1 H1 E s1.ph (env.mono s1.pp) (k.step s1)
/-- an if without else whose suite leaves the def -/
theorem sd_when {b : Bool} {t2 : TS} (h : ET W t ds b) (h1 : b = true → SD W t1 ds (.rt d)) (h2 : b = false → SD W t2 ds (.rt d)) : SD W (tSeq (tIfS t t1 tNext) t2) ds (.rt d) := fun σ P H E e env k =>
  h σ P H e env _ fun P1 H1 s1 => by
    cases b with
    | true => exact h1 rfl σ P1 H1 { E with nx := t2 E } s1.ph (env.mono s1.pp) (k.step s1)
    | false => exact h2 rfl σ P1 H1 E s1.ph (env.mono s1.pp) (k.step s1)
theorem sd_asg {j : Nat} (h : ED W te ds d) : SD W (tAsg te (gName j)) ds (.nx (ds.set j (some d))) := fun σ P H E e env k =>
  h σ P H e env _ fun v P1 H1 s1 r1 => k _ P1 H1 s1 ((env.mono s1.pp).set j r1)
theorem sd_ret (h : ED W te ds d) : SD W (tRet te) ds (.rt d) := fun σ P H E e env k => h σ P H e env _ k
theorem sd_drop (h : ED W te ds d) : SD W (tDrop te) ds (.nx ds) := fun σ P H E e env k =>
  h σ P H e env _ fun v P1 H1 s1 r1 => k σ P1 H1 s1 (env.mono s1.pp)
/-- a, b = a tuple of two -/
theorem sd_unp2 {i j : Nat} {a b : PyData} (h : ED W te ds (pT [a, b])) : SD W (tAsg te (gTup W.K 2 (gCons (gName i) (gCons (gName j) gNil)))) ds (.nx ((ds.set i (some (.py a))).set j (some (.py b)))) := fun σ P H E e env k =>
  h σ P H e env _ fun v P1 H1 s1 r1 => by
    cases r1 with
    | @tup p xs _ hs ha =>
      cases ha with
      | cons h1 ha =>
        cases ha with
        | cons h2 ha =>
          cases ha
          exact ⟨p, _, rfl, ex_t s1.ph hs, rfl, _, _, rfl, _, _, rfl, rfl, k _ P1 H1 s1 (((env.mono s1.pp).set i (d := .py a) h1).set j (d := .py b) h2)⟩
theorem sd_unp3 {i j l : Nat} {a b c : PyData} (h : ED W te ds (pT [a, b, c])) : SD W (tAsg te (gTup W.K 3 (gCons (gName i) (gCons (gName j) (gCons (gName l) gNil))))) ds (.nx (((ds.set i (some (.py a))).set j (some (.py b))).set l (some (.py c)))) := fun σ P H E e env k =>
  h σ P H e env _ fun v P1 H1 s1 r1 => by
    cases r1 with
    | @tup p xs _ hs ha =>
      cases ha with
      | cons h1 ha =>
        cases ha with
        | cons h2 ha =>
          cases ha with
          | cons h3 ha =>
            cases ha
            exact ⟨p, _, rfl, ex_t s1.ph hs, rfl, _, _, rfl, _, _, rfl, _, _, rfl, rfl, k _ P1 H1 s1 ((((env.mono s1.pp).set i (d := .py a) h1).set j (d := .py b) h2).set l (d := .py c) h3)⟩
end
end Dl

set_option Elab.async false
set_option linter.all false
set_option maxRecDepth 100000
set_option maxHeartbeats 4000000
namespace Dl
open PySem L2
open Evl (Ex fresh_back sz_of sz_lt ex_l ex_t sq_of st_of)
theorem RD2.cast3 {W : Wd} {r : R2} {x y z z' : D} (h : RD2 W r x y z) (e : z = z') : RD2 W r x y z' := e ▸ h
theorem RD2.left {W : Wd} {r r' : R2} {x y z : D} (h : RD2 W r x y z) : RD2 W (fun x y H Q => r x y H Q ∨ r' x y H Q) x y z := fun P H v w e r1 r2 Q q => .inl (h P H v w e r1 r2 Q q)
theorem RD2.right {W : Wd} {r r' : R2} {x y z : D} (h : RD2 W r' x y z) : RD2 W (fun x y H Q => r x y H Q ∨ r' x y H Q) x y z := fun P H v w e r1 r2 Q q => .inr (h P H v w e r1 r2 Q q)
/-! texts in tuples, scalars -/
def strsP : List Str → List PyData := List.map PyData.str
theorem dpa_strs {K : PySem.W.Frag} {H : Hp} : ∀ {ws : List Str} {vs : List V}, DpAll K H vs (ws.map PyData.str) → vs = ws.map V.str
  | [], _, h => by cases h; rfl
  | b :: bs, _, h => by
    cases h with
    | cons h t =>
      cases h
      rw [dpa_strs t]
      rfl
theorem dpa_ints {K : PySem.W.Frag} {H : Hp} : ∀ {ws : List Int} {vs : List V}, DpAll K H vs (ws.map PyData.int) → vs = ws.map V.int
  | [], _, h => by cases h; rfl
  | b :: bs, _, h => by
    cases h with
    | cons h t =>
      cases h
      rw [dpa_ints t]
      rfl
theorem all_flat_str (ws : List Str) : (ws.map V.str).all flatV = true := by
  rw [List.all_map]
  exact List.all_eq_true.mpr fun _ _ => rfl
theorem in_strs (s : Str) (ws : List Str) : inV (.str s) (ws.map V.str) = ws.any (· == s) := by
  unfold inV
  rw [List.any_map]
  rfl
theorem rd_inS {W : Wd} {s : Str} {ws : List Str} : RD2 W (rIn W.K false) (pS s) (pT (ws.map PyData.str)) (pB (ws.any (· == s))) := fun P H v w e r1 r2 Q q => by
  cases r1
  cases r2 with
  | @tup a xs _ hs ha =>
    have z := dpa_strs ha
    subst z
    refine ⟨a, _, rfl, .inr (ex_t e hs), rfl, all_flat_str ws, ?_⟩
    rw [in_strs]
    exact q _ P H (Step.refl e) (Dp.bl _)
theorem rd_eqI {W : Wd} {i j : Int} : RD2 W rEq (pI i) (pI j) (pB (i == j)) := fun P H v w e r1 r2 Q q => by
  cases r1; cases r2
  refine ⟨rfl, ?_⟩
  rw [dec_int]
  exact q _ P H (Step.refl e) (Dp.bl _)
theorem rd_neI {W : Wd} {i j : Int} : RD2 W rNe (pI i) (pI j) (pB (!(i == j))) := fun P H v w e r1 r2 Q q => by
  cases r1; cases r2
  refine ⟨rfl, ?_⟩
  rw [dec_int]
  exact q _ P H (Step.refl e) (Dp.bl _)
theorem rd_eqS {W : Wd} {i j : Str} : RD2 W rEq (pS i) (pS j) (pB (i == j)) := fun P H v w e r1 r2 Q q => by
  cases r1; cases r2
  refine ⟨rfl, ?_⟩
  rw [dec_str]
  exact q _ P H (Step.refl e) (Dp.bl _)
theorem rd_neS {W : Wd} {i j : Str} : RD2 W rNe (pS i) (pS j) (pB (!(i == j))) := fun P H v w e r1 r2 Q q => by
  cases r1; cases r2
  refine ⟨rfl, ?_⟩
  rw [dec_str]
  exact q _ P H (Step.refl e) (Dp.bl _)
/-- tuples of ints, by order -/
theorem rd_ltT {W : Wd} {ns ms : List Int} : RD2 W (rLtT W.K) (pT (ns.map PyData.int)) (pT (ms.map PyData.int)) (pB (HT.lexLt ns ms)) := fun P H v w e r1 r2 Q q => by
  cases r1 with
  | @tup a xs _ hs ha =>
    cases r2 with
    | @tup b ys _ ht hb =>
      have z := dpa_ints ha
      have z' := dpa_ints hb
      subst z; subst z'
      exact ⟨a, b, ns, ms, rfl, rfl, ex_t e hs, ex_t e ht, q _ P H (Step.refl e) (Dp.bl _)⟩

/-! ### comprehensions -/
/-- while a comprehension makes the list at D: what it has made is data on Pi -/
structure LcI (W : Wd) (P1 H1 : Hp) (Dd : Addr) (l : List PyData) (H' : Hp) : Prop where
  ex : ∃ (Pi : Hp) (acc : List V), Ex Pi H' ∧ Ex P1 Pi ∧ Ex H1 H' ∧ (∀ a o, H1 a = some o → Pi a = P1 a) ∧ Pi Dd = none ∧ H' Dd = some (.lst acc) ∧ DpAll W.K Pi acc l ∧ ∀ a ps, Pi a = some (.tbl ps) → P1 a = some (.tbl ps)
theorem LcI.start {W : Wd} {P1 H1 : Hp} {Dd : Addr} (e : Ex P1 H1) (hn : H1 Dd = none) : LcI W P1 H1 Dd [] (upd H1 Dd (.lst [])) :=
  ⟨P1, [], fun a o h => by rw [upd_ne (ne_of_none (e a o h) hn)]; exact e a o h, Ex.refl P1, Ex.new hn, fun _ _ _ => rfl, fresh_back e hn, upd_same, .nil, fun _ _ h => h⟩
theorem LcI.fin {W : Wd} {P1 H1 H' : Hp} {Dd : Addr} {l : List PyData} (h : LcI W P1 H1 Dd l H') (hn : H1 Dd = none) : ∃ P', Step P1 H1 P' H' ∧ Dp W.K P' (.ref Dd) (.list l) := by
  obtain ⟨Pi, acc, h1, h2, h3, h4, h5, h6, h7, h8⟩ := h.ex
  refine ⟨upd Pi Dd (.lst acc), ⟨h2.trans (Ex.new h5), fun a o q => ?_, h3, fun a o q => ?_, fun a ps q => ?_⟩, Dp.lst (sq_of upd_same) (dpa_mono (Ex.new h5) h7)⟩
  · by_cases ha : a = Dd
    · subst ha
      rw [upd_same] at q
      rw [h6]
      exact q
    · rw [upd_ne ha] at q
      exact h1 a o q
  · rw [upd_ne (ne_of_none q hn)]
    exact h4 a o q
  · by_cases ha : a = Dd
    · subst ha
      rw [upd_same] at q
      cases q
    · rw [upd_ne ha] at q
      exact h8 a ps q
theorem lc_turnD {W : Wd} {P1 H1 H' : Hp} {Dd : Addr} {l : List PyData} {σ2 : St} {ds2 : DS} {tt : TT} {te : TE} {b : Bool} {d : PyData} (h : LcI W P1 H1 Dd l H') (hn : H1 Dd = none) (hz : l.length < 100000)
    (env : EnvD W ds2 σ2 P1) (ht : ET W tt ds2 b) (he : b = true → ED W te ds2 (.py d)) {Nx : Hp → Prop} (hN : ∀ H'', LcI W P1 H1 Dd (l ++ if b = true then [d] else []) H'' → Nx H'') :
    tt σ2 H' fun b H3 => if b = true then te σ2 H3 fun y H4 => ∃ acc, H4 Dd = some (.lst acc) ∧ acc.length < sizeLine ∧ Nx (upd H4 Dd (.lst (acc ++ [y]))) else Nx H3 := by
  obtain ⟨Pi, acc, h1, h2, h3, h4, h5, h6, h7, h8⟩ := h.ex
  refine ht σ2 Pi H' h1 (env.mono h2) _ fun P3 H3 s3 => ?_
  cases b with
  | true =>
    show te σ2 H3 _
    refine he rfl σ2 P3 H3 s3.ph (env.mono (h2.trans s3.pp)) _ fun y P4 H4 s4 r4 => ?_
    have s := s3.trans s4
    have e5 : P4 Dd = none := by rw [s.nw Dd _ h6]; exact h5
    refine ⟨acc, s.hh _ _ h6, by rw [DpAll.len h7]; exact sz_lt hz, hN _ ⟨P4, acc ++ [y], fun a o q => ?_, h2.trans s.pp, fun a o q => ?_, fun a o q => ?_, e5, upd_same, ?_, fun x ps z => h8 x ps (s.nt x ps z)⟩⟩
    · rw [upd_ne (ne_of_none q e5)]
      exact s.ph a o q
    · rw [upd_ne (ne_of_none q hn)]
      exact s.hh a o (h3 a o q)
    · exact (s.nw a o (h3 a o q)).trans (h4 a o q)
    · exact DpAll.app (dpa_mono s.pp h7) (.cons r4 .nil)
  | false =>
    show Nx H3
    refine hN _ ⟨P3, acc, s3.ph, h2.trans s3.pp, h3.trans s3.hh, fun a o q => (s3.nw a o (h3 a o q)).trans (h4 a o q), by rw [s3.nw Dd _ h6]; exact h5, s3.hh _ _ h6, ?_, fun x ps z => h8 x ps (s3.nt x ps z)⟩
    simp
    exact dpa_mono s3.pp h7
theorem wipe1 (σ : St) (j : Nat) : wipe σ [j] = σ.set j none := rfl
theorem wipe1_set (σ : St) (j : Nat) (x : V) : wipe ((wipe σ [j]).set j (some x)) [j] = wipe σ [j] := by
  rw [wipe1, wipe1, List.set_set, List.set_set]
def fm (b : Bool) (d : PyData) : List PyData := if b = true then [d] else []
theorem fm_len (b : Bool) (d : PyData) : (fm b d).length ≤ 1 := by cases b <;> simp [fm]
section
variable {W : Wd} {ds : DS} {te tl : TE} {tt : TT} {ta : TA} {j : Nat}
theorem et_yes : ET W tYes ds true := fun σ P H e env Q q => q P H (Step.refl e)
theorem range_snoc {n : Nat} (g : Nat → List PyData) : ((List.range (n + 1)).map g).flatten = ((List.range n).map g).flatten ++ g n := by
  rw [List.range_succ, List.map_append, List.flatten_append]
  simp
theorem flat_len {n : Nat} (b : Nat → Bool) (d : Nat → PyData) : (((List.range n).map fun k => fm (b k) (d k)).flatten).length ≤ n := by
  induction n with
  | zero => simp
  | succ n ih =>
    rw [range_snoc, List.length_append]
    have := fm_len (b n) (d n)
    omega
/-- over range(lo, hi) -/
theorem ed_lcR2 {lo hi : Int} (b : Nat → Bool) (d : Nat → PyData) (ha : EA W ta ds [pI lo, pI hi]) (hb : -(2 ^ 62) ≤ lo ∧ lo < 2 ^ 62 ∧ -(2 ^ 62) ≤ hi ∧ hi < 2 ^ 62) (hz : (hi - lo).toNat ≤ 40000)
    (ht : ∀ k, k < (hi - lo).toNat → ET W tt ((ds.set j none).set j (some (pI (lo + (k : Int))))) (b k)) (he : ∀ k, k < (hi - lo).toNat → b k = true → ED W te ((ds.set j none).set j (some (pI (lo + (k : Int))))) (.py (d k))) :
    ED W (tLc (iRng2 ta) (gName j) tt te [j]) ds (pL ((List.range (hi - lo).toNat).map fun k => fm (b k) (d k)).flatten) := fun σ P H e env Q q =>
  ha σ P H e env _ fun vs P1 H1 s1 r1 => by
    obtain rfl : vs = [.int lo, .int hi] := by
      cases r1 with
      | cons a r => cases r with
        | cons c r => cases r; cases a; cases c; rfl
    refine ⟨lo, hi, rfl, hb, fun Dd hD => ?_⟩
    refine lc_range (lo := lo) (n := (hi - lo).toNat) (fun i H' => LcI W P1 H1 Dd (((List.range i).map fun k => fm (b k) (d k)).flatten) H') (LcI.start s1.ph hD) (fun i H' hi' p => ?_) (fun H' p => ?_)
    · refine ⟨wipe1_set _ _ _, ?_⟩
      refine lc_turnD p hD (by have := flat_len (n := i) b d; omega) (((env.mono s1.pp).wipe j).set j (d := pI _) (Dp.int _)) (ht i hi') (he i hi') fun H'' z => ?_
      rw [range_snoc]
      exact z
    · obtain ⟨P', s2, r2⟩ := p.fin hD
      exact q _ P' H' (s1.trans s2) r2
/-- over range(n) -/
theorem ed_lcR1 {hi : Int} (b : Nat → Bool) (d : Nat → PyData) (ha : EA W ta ds [pI hi]) (hb : -(2 ^ 62) ≤ hi ∧ hi < 2 ^ 62) (hz : hi.toNat ≤ 40000)
    (ht : ∀ k, k < hi.toNat → ET W tt ((ds.set j none).set j (some (pI (k : Int)))) (b k)) (he : ∀ k, k < hi.toNat → b k = true → ED W te ((ds.set j none).set j (some (pI (k : Int)))) (.py (d k))) :
    ED W (tLc (iRng1 ta) (gName j) tt te [j]) ds (pL ((List.range hi.toNat).map fun k => fm (b k) (d k)).flatten) := fun σ P H e env Q q =>
  ha σ P H e env _ fun vs P1 H1 s1 r1 => by
    obtain rfl : vs = [.int hi] := by
      cases r1 with
      | cons a r => cases r; cases a; rfl
    refine ⟨hi, rfl, hb.1, hb.2, fun Dd hD => ?_⟩
    refine lc_range (lo := 0) (n := hi.toNat) (fun i H' => LcI W P1 H1 Dd (((List.range i).map fun k => fm (b k) (d k)).flatten) H') (LcI.start s1.ph hD) (fun i H' hi' p => ?_) (fun H' p => ?_)
    · refine ⟨wipe1_set _ _ _, ?_⟩
      have e0 : (0 : Int) + (i : Int) = (i : Int) := Int.zero_add _
      rw [e0]
      refine lc_turnD p hD (by have := flat_len (n := i) b d; omega) (((env.mono s1.pp).wipe j).set j (d := pI _) (Dp.int _)) (ht i hi') (he i hi') fun H'' z => ?_
      rw [range_snoc]
      exact z
    · obtain ⟨P', s2, r2⟩ := p.fin hD
      exact q _ P' H' (s1.trans s2) r2
theorem take_snoc {l : List PyData} {i : Nat} {x : PyData} (g : PyData → List PyData) (h : l[i]? = some x) : ((l.take (i + 1)).map g).flatten = ((l.take i).map g).flatten ++ g x := by
  rw [List.take_add_one, h, List.map_append, List.flatten_append]
  simp
theorem flat_len2 (l : List PyData) (b : PyData → Bool) (d : PyData → PyData) : ((l.map fun x => fm (b x) (d x)).flatten).length ≤ l.length := by
  induction l with
  | nil => simp
  | cons a l ih =>
    rw [List.map_cons, List.flatten_cons, List.length_append, List.length_cons]
    have := fm_len (b a) (d a)
    omega
/-- over a tuple -/
theorem ed_lcT {xs : List PyData} (b : PyData → Bool) (d : PyData → PyData) (hl : ED W tl ds (pT xs)) (hz : xs.length ≤ 40000)
    (ht : ∀ x ∈ xs, ET W tt ((ds.set j none).set j (some (.py x))) (b x)) (he : ∀ x ∈ xs, b x = true → ED W te ((ds.set j none).set j (some (.py x))) (.py (d x))) :
    ED W (tLc (iTup W.K tl) (gName j) tt te [j]) ds (pL (xs.map fun x => fm (b x) (d x)).flatten) := fun σ P H e env Q q =>
  hl σ P H e env _ fun v P1 H1 s1 r1 => by
    cases r1 with
    | @tup a ys _ hs ha =>
      have hn := DpAll.len ha
      refine ⟨a, rfl, ⟨ys, ex_t s1.ph hs⟩, fun Dd hD => ?_⟩
      refine lc_tup (xs := ys) (fun i H' => LcI W P1 H1 Dd (((xs.take i).map fun x => fm (b x) (d x)).flatten) H') (by rw [List.take_zero]; exact LcI.start s1.ph hD) (fun i H' _ p => ?_) (fun i y H' hi' p => ?_) (fun H' p => ?_)
      · obtain ⟨Pi, acc, h1, h2, h3, _⟩ := p.ex
        exact ex_t (s1.ph.trans h3) hs
      · obtain ⟨x, hx, rx⟩ := DpAll.getV ha hi'
        have hm : x ∈ xs := List.mem_of_getElem? hx
        refine ⟨wipe1_set _ _ _, ?_⟩
        refine lc_turnD p hD (by have := flat_len2 (xs.take i) b d; have : (xs.take i).length ≤ xs.length := by { rw [List.length_take]; omega }; omega) (((env.mono s1.pp).wipe j).set j (d := .py x) rx) (ht x hm) (he x hm) fun H'' z => ?_
        rw [take_snoc _ hx]
        exact z
      · obtain ⟨P', s2, r2⟩ := p.fin hD
        rw [hn, List.take_length] at r2
        exact q _ P' H' (s1.trans s2) r2
/-- over a list -/
theorem ed_lcL {xs : List PyData} (b : PyData → Bool) (d : PyData → PyData) (hl : ED W tl ds (pL xs)) (hz : xs.length ≤ 40000)
    (ht : ∀ x ∈ xs, ET W tt ((ds.set j none).set j (some (.py x))) (b x)) (he : ∀ x ∈ xs, b x = true → ED W te ((ds.set j none).set j (some (.py x))) (.py (d x))) :
    ED W (tLc (iList W.K tl) (gName j) tt te [j]) ds (pL (xs.map fun x => fm (b x) (d x)).flatten) := fun σ P H e env Q q =>
  hl σ P H e env _ fun v P1 H1 s1 r1 => by
    cases r1 with
    | @lst a ys _ hs ha =>
      have hn := DpAll.len ha
      refine ⟨a, rfl, ⟨ys, ex_l s1.ph hs⟩, fun Dd hD => ?_⟩
      refine lc_list (xs := ys) (fun i H' => LcI W P1 H1 Dd (((xs.take i).map fun x => fm (b x) (d x)).flatten) H') (by rw [List.take_zero]; exact LcI.start s1.ph hD) (fun i H' _ p => ?_) (fun i y H' hi' p => ?_) (fun H' p => ?_)
      · obtain ⟨Pi, acc, h1, h2, h3, _⟩ := p.ex
        exact ex_l (s1.ph.trans h3) hs
      · obtain ⟨x, hx, rx⟩ := DpAll.getV ha hi'
        have hm : x ∈ xs := List.mem_of_getElem? hx
        refine ⟨wipe1_set _ _ _, ?_⟩
        refine lc_turnD p hD (by have := flat_len2 (xs.take i) b d; have : (xs.take i).length ≤ xs.length := by { rw [List.length_take]; omega }; omega) (((env.mono s1.pp).wipe j).set j (d := .py x) rx) (ht x hm) (he x hm) fun H'' z => ?_
        rw [take_snoc _ hx]
        exact z
      · obtain ⟨P', s2, r2⟩ := p.fin hD
        rw [hn, List.take_length] at r2
        exact q _ P' H' (s1.trans s2) r2
/-- no test: a map -/
theorem fm_map {α : Type} (l : List α) (d : α → PyData) : (l.map fun x => fm true (d x)).flatten = l.map d := by
  induction l with
  | nil => rfl
  | cons a l ih =>
    rw [List.map_cons, List.flatten_cons, List.map_cons, ih]
    rfl
theorem fm_filter {α : Type} (l : List α) (b : α → Bool) (d : α → PyData) : (l.map fun x => fm (b x) (d x)).flatten = (l.filter b).map d := by
  induction l with
  | nil => rfl
  | cons a l ih =>
    rw [List.map_cons, List.flatten_cons, ih, List.filter_cons]
    unfold fm
    cases b a <;> simp
end
end Dl

set_option Elab.async false
set_option linter.all false
set_option maxRecDepth 100000
set_option maxHeartbeats 4000000
namespace Dl
open PySem L2 PySem.Spec PyProof.Rows
section
variable {P : Program} {w : World} {W : Wd} {mg : Str → Option Value} {base : Heap}
/-- a pure def, by its body -/
theorem okD {x qual : Str} {st : Stmt} {f : Addr} {fd : FuncData} {N ps : List Str} {k : Nat} {F : List D → Option D} (Fn : Fun W.K x qual st f fd) (S : FnScope N ps (defScope st)) (len : ∀ l d, F l = some d → l.length = ps.length)
    (hb : ∀ (cdv : Value) (A : Around) (outer : List Env) (s : Shared) (H : Hp) (E : XK), Room k (A.deeper (envOfC qual (defScope st) s.heap.objs.size f cdv)) → ∀ l d, F l = some d →
      ∃ t, PSs (cxOf CX0 P w W.K mg base N qual (defScope st) f cdv A outer s H E).nox (defBody st) t ∧ SD W t (startD N l) (.rt d)) : FnOk P w W.K mg base CX0 (k + 1) f fd ps (spD W F) := by
  refine Fn.ok S (fun vs H Q E h => ?_) (fun cdv A outer s H vs Q E hr h => ?_)
  · obtain ⟨P0, l, d, e, r, hF, _⟩ := h
    rw [Paired.length r]
    exact len l d hF
  · obtain ⟨P0, l, d, e, r, hF, q⟩ := h
    obtain ⟨t, ht, hs⟩ := hb cdv A outer s H E hr l d hF
    exact ⟨t, ht, hs _ P0 H _ e (EnvD.start r) q⟩
end
/-- a pure def that callers may call by its name -/
structure CD (P : Program) (w : World) (W : Wd) (mg : Str → Option Value) (base : Heap) (x : Str) (k : Nat) (ps : List Str) (F : List D → Option D) : Prop where
  ex : ∃ f fd, FnOk P w W.K mg base CX0 k f fd ps (spD W F) ∧ mg x = some (.ref f) ∧ PySem.W.keepIn W.K (.ref f) = true ∧ Binds W.K fd ps []
theorem pe_cd {X : Cx} {W : Wd} {x : Str} {k : Nat} {ps : List Str} {F : List D → Option D} {p pos : Pos} {e : Expr} {es : List Expr} {t : TA} (C : CD X.prog X.w W X.mg X.base x k ps F) (hr : Room k X.A) (ha : PA X (e :: es) t) (hK : X.K = W.K := by rfl) (hg : Gl X x := by rfl)
    (hdb : (x == ("__debug__" : Str)) = false := by decide) (he : starEach (e :: es) X.env = (false, eval e X.env) :: starEach es X.env := by rfl) (hpl : (backTo pos (starEach es X.env)).any (·.1) = false := by rfl) :
    PE X (.Call (.Name x p) (e :: es) [] pos) (tCall (spD W F) [] E0 t) := by
  obtain ⟨f, fd, F1, h1, h2, h3⟩ := C.ex
  rw [← hK] at F1 h2 h3
  exact pe_call F1 hr hg h1 h2 h3 .nil pass0 ha hdb he hpl
end Dl
namespace Dl
open PySem L2
/-- isinstance of data, by the word of its type -/
def isiD (n : String) (t : String) : Bool := t == n || (n == "int" && t == "bool")
theorem kit_int (a : PyData) : kitB (tyD a) "int" = some (isiD "int" (tyD a)) := by cases a <;> (simp only [tyD]; decide +kernel)
theorem kit_bool (a : PyData) : kitB (tyD a) "bool" = some (isiD "bool" (tyD a)) := by cases a <;> (simp only [tyD]; decide +kernel)
theorem kit_str (a : PyData) : kitB (tyD a) "str" = some (isiD "str" (tyD a)) := by cases a <;> (simp only [tyD]; decide +kernel)
theorem kit_tuple (a : PyData) : kitB (tyD a) "tuple" = some (isiD "tuple" (tyD a)) := by cases a <;> (simp only [tyD]; decide +kernel)
theorem kit_list (a : PyData) : kitB (tyD a) "list" = some (isiD "list" (tyD a)) := by cases a <;> (simp only [tyD]; decide +kernel)

/-! rules told over K, for a comprehension's block -/
section
variable {X : Cx} {W : Wd}
theorem ixT (h : X.K = W.K) : IxR X (rIxT W.K) := h ▸ ix_tup
theorem ixL (h : X.K = W.K) : IxR X (rIxL W.K) := h ▸ ix_list
theorem opLtT (h : X.K = W.K) (hu : X.A.units < cLine) : OpR X (compareOp .Lt) (rLtT W.K) := h ▸ op_ltT hu
theorem opEqD (h : X.K = W.K) (hu : X.A.units + 64 < cLine) : OpR X (compareOp .Eq) (rEqD W.K) := h ▸ op_eqD hu
theorem opNeD (h : X.K = W.K) (hu : X.A.units + 64 < cLine) : OpR X (compareOp .NotEq) (rNeD W.K) := h ▸ op_neD hu
theorem opIn (h : X.K = W.K) : OpR X (compareOp .In) (rIn W.K false) := h ▸ op_in_seq
theorem opNotIn (h : X.K = W.K) : OpR X (compareOp .NotIn) (rIn W.K true) := h ▸ op_notIn_seq
theorem callLen (h : X.K = W.K) : CallR X (.builtin "len") (fun xs H Q => ∃ p ys, xs = [.ref p] ∧ (SqL W.K H p ys ∨ SqT W.K H p ys) ∧ Q (.int ys.length) H) := h ▸ call_len_seq
theorem callIsi (h : X.K = W.K) : CallR X (.builtin "isinstance") (rIsi W.K) := h ▸ call_isi
theorem callAll (h : X.K = W.K) (hc : X.calm = true) : CallR X (.builtin "all") (rAll W.K) := h ▸ cr_all hc
end
end Dl

set_option Elab.async false
set_option linter.all false
set_option maxRecDepth 100000
set_option maxHeartbeats 4000000
/-! data with errors -/
namespace Dl
open PySem L2 PySem.Spec PyProof.Rows
open Evl (Ex fresh_back sz_of sz_lt ex_l ex_t sq_of st_of)
/-- errors: of the class c with one attribute; of the class c without; of a builtin class -/
inductive Er where
  | own (c : Nat) (f : Str) (m : PyData)
  | pl (c : Nat)
  | bi (n : String)
def IsEr (W : Wd) (P H : Hp) (cls : Value) (d : Option Addr) : Er → Prop
  | .own c f m => cls = .ref (W.cl c) ∧ ∃ dd v, d = some dd ∧ H dd = some (.xd [(f, v)]) ∧ Dp W.K P v m
  | .pl c => cls = .ref (W.cl c)
  | .bi n => cls = .type n
abbrev Res := Except Er D
def EX (W : Wd) (E : XK) (te : TE) (ds : DS) (o : Res) : Prop := ∀ (σ : L2.St) (P H : Hp), Ex P H → EnvD W ds σ P → ∀ Q : VK, (∀ d, o = .ok d → ∀ v P' H', Step P H P' H' → RelD W P' v d → Q v H') →
  (∀ er, o = .error er → ∀ cls dd P' H', Step P H P' H' → IsEr W P' H' cls dd er → E cls dd H') → te σ H Q
def AX (W : Wd) (E : XK) (ta : TA) (ds : DS) (o : Except Er (List D)) : Prop := ∀ (σ : L2.St) (P H : Hp), Ex P H → EnvD W ds σ P → ∀ Q : List V → Hp → Prop, (∀ l, o = .ok l → ∀ vs P' H', Step P H P' H' → RelA W P' vs l → Q vs H') →
  (∀ er, o = .error er → ∀ cls dd P' H', Step P H P' H' → IsEr W P' H' cls dd er → E cls dd H') → ta σ H Q
/-- a body that ends by a value or an error -/
def SX (W : Wd) (E : XK) (ts : TS) (ds : DS) (o : Res) : Prop := ∀ (σ : L2.St) (P H : Hp) (D : Ends), Ex P H → EnvD W ds σ P → (∀ d, o = .ok d → ∀ v P' H', Step P H P' H' → RelD W P' v d → D.rt v H') →
  (∀ er, o = .error er → ∀ cls dd P' H', Step P H P' H' → IsEr W P' H' cls dd er → E cls dd H') → ts D σ H
section
variable {W : Wd} {E : XK} {ds ds1 : DS} {te : TE} {t : TT} {t1 t2 : TS} {d : D} {o : Res}
theorem ED.ex (h : ED W te ds d) : EX W E te ds (.ok d) := fun σ P H e env Q q _ => h σ P H e env Q fun v P' H' s r => q d rfl v P' H' s r
theorem EX.ed (h : EX W E te ds (.ok d)) : ED W te ds d := fun σ P H e env Q q => h σ P H e env Q (fun d' ed v P' H' s r => by cases ed; exact q v P' H' s r) fun er he => by cases he
theorem EX.cast {o' : Res} (h : EX W E te ds o) (e : o = o') : EX W E te ds o' := e ▸ h
theorem SX.cast {o' : Res} (h : SX W E t1 ds o) (e : o = o') : SX W E t1 ds o' := e ▸ h
theorem sx_ret (h : EX W E te ds o) : SX W E (tRet te) ds o := fun σ P H D e env q x => h σ P H e env D.rt q x
theorem SD.sx (h : SD W t1 ds (.rt d)) : SX W E t1 ds (.ok d) := fun σ P H D e env q _ => h σ P H D e env fun v P' H' s r => q d rfl v P' H' s r
theorem sx_seq (h1 : SD W t1 ds (.nx ds1)) (h2 : SX W E t2 ds1 o) : SX W E (tSeq t1 t2) ds o := fun σ P H D e env q x =>
  h1 σ P H { D with nx := t2 D } e env fun σ1 P1 H1 s1 env1 => h2 σ1 P1 H1 D s1.ph env1 (fun d hd v P' H' s r => q d hd v P' H' (s1.trans s) r) fun er he cls dd P' H' s r => x er he cls dd P' H' (s1.trans s) r
/-- j = e, e may raise -/
theorem sx_asg {j : Nat} {o1 : Res} (h : EX W E te ds o1) (h2 : ∀ d, o1 = .ok d → SX W E t2 (ds.set j (some d)) o) (h3 : ∀ er, o1 = .error er → o = .error er) : SX W E (tSeq (tAsg te (gName j)) t2) ds o := fun σ P H D e env q x =>
  h σ P H e env _ (fun d hd v P1 H1 s1 r1 => h2 d hd _ P1 H1 D s1.ph ((env.mono s1.pp).set j r1) (fun d hd v P' H' s r => q d hd v P' H' (s1.trans s) r) fun er he cls dd P' H' s r => x er he cls dd P' H' (s1.trans s) r)
    fun er he => x er (h3 er he)
/-- if t: a raise or a return; then the rest -/
theorem sx_when {b : Bool} (h : ET W t ds b) (h1 : b = true → SX W E t1 ds o) (h2 : b = false → SX W E t2 ds o) : SX W E (tSeq (tIfS t t1 tNext) t2) ds o := fun σ P H D e env q x =>
  h σ P H e env _ fun P1 H1 s1 => by
    have q' : ∀ d, o = .ok d → ∀ v P' H', Step P1 H1 P' H' → RelD W P' v d → D.rt v H' := fun d hd v P' H' s r => q d hd v P' H' (s1.trans s) r
    have x' : ∀ er, o = .error er → ∀ cls dd P' H', Step P1 H1 P' H' → IsEr W P' H' cls dd er → E cls dd H' := fun er he cls dd P' H' s r => x er he cls dd P' H' (s1.trans s) r
    cases b with
    | true => exact h1 rfl σ P1 H1 { D with nx := t2 D } s1.ph (env.mono s1.pp) q' x'
    | false => exact h2 rfl σ P1 H1 D s1.ph (env.mono s1.pp) q' x'
end
/-! promises of defs that may raise -/
def spR (W : Wd) (R : List D → Res → Prop) : Sp := fun vs H Q E => ∃ P l o, Ex P H ∧ RelA W P vs l ∧ R l o ∧ (∀ d, o = .ok d → ∀ v P' H', Step P H P' H' → RelD W P' v d → Q v H') ∧
  (∀ er, o = .error er → ∀ cls dd P' H', Step P H P' H' → IsEr W P' H' cls dd er → E cls dd H')
section
variable {W : Wd} {E : XK} {ds : DS} {o : Res} {ta : TA}
theorem ex_call {R : List D → Res → Prop} {l : List D} (ha : EA W ta ds l) (hR : R l o) : EX W E (tCall (spR W R) [] E ta) ds o := fun σ P H e env Q q x =>
  ha σ P H e env _ fun vs P1 H1 s1 r1 => ⟨P1, l, o, s1.ph, by rw [List.append_nil]; exact r1, hR, fun d hd v P2 H2 s2 r2 => q d hd v P2 H2 (s1.trans s2) r2, fun er he cls dd P2 H2 s2 r2 => x er he cls dd P2 H2 (s1.trans s2) r2⟩
end
section
variable {P : Program} {w : World} {W : Wd} {mg : Str → Option Value} {base : Heap}
/-- a def that may raise, by its body -/
theorem okX {x qual : Str} {st : Stmt} {f : Addr} {fd : FuncData} {N ps : List Str} {k : Nat} {R : List D → Res → Prop} (Fn : Fun W.K x qual st f fd) (S : FnScope N ps (defScope st)) (len : ∀ l o, R l o → l.length = ps.length)
    (hb : ∀ (cdv : Value) (A : Around) (outer : List Env) (s : Shared) (H : Hp) (E : XK), Room k (A.deeper (envOfC qual (defScope st) s.heap.objs.size f cdv)) → ∀ l o, R l o →
      ∃ t, PSs (cxOf (L2.CX P w) P w W.K mg base N qual (defScope st) f cdv A outer s H E) (defBody st) t ∧ SX W E t (startD N l) o) : FnOk P w W.K mg base (L2.CX P w) (k + 1) f fd ps (spR W R) := by
  refine Fn.okX S (fun vs H Q E h => ?_) (fun cdv A outer s H vs Q E hr h => ?_)
  · obtain ⟨P0, l, d, e, r, hF, _⟩ := h
    rw [Paired.length r]
    exact len l d hF
  · obtain ⟨P0, l, o, e, r, hF, q, x⟩ := h
    obtain ⟨t, ht, hs⟩ := hb cdv A outer s H E hr l o hF
    exact ⟨t, ht, hs _ P0 H _ e (EnvD.start r) q x⟩
end
/-- such a def, called by its name -/
structure CX1 (P : Program) (w : World) (W : Wd) (mg : Str → Option Value) (base : Heap) (x : Str) (k : Nat) (ps : List Str) (R : List D → Res → Prop) : Prop where
  ex : ∃ f fd, FnOk P w W.K mg base (L2.CX P w) k f fd ps (spR W R) ∧ mg x = some (.ref f) ∧ PySem.W.keepIn W.K (.ref f) = true ∧ Binds W.K fd ps []
theorem pe_cx {X : Cx} {W : Wd} {x : Str} {k : Nat} {ps : List Str} {R : List D → Res → Prop} {p pos : Pos} {e : Expr} {es : List Expr} {t : TA} {E : XK} (C : CX1 X.prog X.w W X.mg X.base x k ps R) (hr : Room k X.A) (hx : Passes (L2.CX X.prog X.w) X E) (ha : PA X (e :: es) t) (hK : X.K = W.K := by rfl) (hg : Gl X x := by rfl)
    (hdb : (x == ("__debug__" : Str)) = false := by decide) (he : starEach (e :: es) X.env = (false, eval e X.env) :: starEach es X.env := by rfl) (hpl : (backTo pos (starEach es X.env)).any (·.1) = false := by rfl) :
    PE X (.Call (.Name x p) (e :: es) [] pos) (tCall (spR W R) [] E t) := by
  obtain ⟨f, fd, F1, h1, h2, h3⟩ := C.ex
  rw [← hK] at F1 h2 h3
  exact pe_call F1 hr hg h1 h2 h3 .nil hx ha hdb he hpl
/-- a method of the class at C, found by its name -/
structure CM (P : Program) (w : World) (W : Wd) (mg : Str → Option Value) (base : Heap) (c : Nat) (x : Str) (k : Nat) (ps : List Str) (R : List D → Res → Prop) : Prop where
  ex : ∃ f fd, FnOk P w W.K mg base (L2.CX P w) k f fd ps (spR W R) ∧ Meth W.K (W.cl c) x f ∧ Binds W.K fd ps [] ∧ PySem.W.findIn W.K (.ref (W.cl c)) x = some (some (.ref f)) ∧ PySem.W.isFn W.K (.ref f) = true ∧ PySem.W.fnIn W.K f = true
  cl : Cls W.K (W.cl c)
section
variable {W : Wd} {E : XK} {ds : DS} {o : Res} {ta : TA} {te : TE}
theorem ed_fld {c : Nat} {fs : List (Str × PyData)} {f : Str} {d : PyData} (h : ED W te ds (.obj c fs)) (hc : Cls W.K (W.cl c)) (hn : NoAttr W.K (W.cl c) f) (hl : fs.lookup f = some d) : ED W (tFld W.K te f) ds (.py d) := fun σ P H e env Q q =>
  h σ P H e env _ fun v P1 H1 s1 r1 => by
    obtain ⟨a, dx, gs, rfl, ha, hp⟩ := r1
    obtain ⟨v, hv, rv⟩ : ∃ v, gs.lookup f = some v ∧ Dp W.K P1 v d := by
      clear q ha h
      induction hp with
      | nil => cases hl
      | @cons x y xs ys hxy _ ih =>
        obtain ⟨x1, x2⟩ := x
        obtain ⟨y1, y2⟩ := y
        obtain ⟨rfl, h2⟩ := hxy
        rw [List.lookup_cons] at hl ⊢
        cases hb : f == x1 with
        | true =>
          rw [hb] at hl
          cases hl
          exact ⟨x2, rfl, h2⟩
        | false =>
          rw [hb] at hl
          exact ih hl
    exact ⟨a, _, dx, gs, v, rfl, s1.ph _ _ ha, hc, hn, hv, q v P1 H1 s1 rv⟩
/-- d[x], d a dict by texts -/
theorem ed_dget {td ty : TE} {kvs : List (Str × PyData)} {x : Str} {d : PyData} (h : ED W td ds (.dct kvs)) (hy : ED W ty ds (pS x)) (hl : kvs.lookup x = some d) : ED W (tDGet td ty) ds (.py d) := fun σ P H e env Q q =>
  h σ P H e env _ fun v P1 H1 s1 r1 => hy σ P1 H1 s1.ph (env.mono s1.pp) _ fun u P2 H2 s2 r2 => by
    obtain ⟨a, gs, rfl, ha, hp⟩ := r1.mono s2.pp
    cases r2
    obtain ⟨v, hv, rv⟩ : ∃ v, valV gs (.inr x : Key) = some v ∧ Dp W.K P2 v d := by
      clear q ha h r1
      induction hp with
      | nil => cases hl
      | @cons p y xs ys hxy _ ih =>
        obtain ⟨x1, x2⟩ := p
        obtain ⟨y1, y2⟩ := y
        obtain ⟨e1, h2⟩ := hxy
        cases e1
        rw [List.lookup_cons] at hl
        cases hb : x == y1 with
        | true =>
          rw [hb] at hl
          cases hl
          have := eq_of_beq hb
          subst this
          exact ⟨x2, valV_pos rfl, h2⟩
        | false =>
          rw [hb] at hl
          obtain ⟨v, e1, e2⟩ := ih hl
          refine ⟨v, ?_, e2⟩
          rw [valV_neg (fun z => ?_)]
          · exact e1
          · have : y1 = x := by injection z
            subst this
            simp at hb
    have := DGet.k (k := (.inr x : Key)) (s2.ph _ _ ha)
    rw [hv] at this
    exact ⟨a, v, rfl, this, q v P2 H2 (s1.trans s2) rv⟩
/-- e.m(..) -/
theorem ex_meth {R : List D → Res → Prop} {c : Nat} {fs : List (Str × PyData)} {m : Str} {l : List D} (h : ED W te ds (.obj c fs)) (hn : fs.lookup m = none) (ha : EA W ta ds l) (hR : R (.obj c fs :: l) o) : EX W E (tMeth (W.cl c) m (spR W R) [] E te ta) ds o := fun σ P H e env Q q x =>
  h σ P H e env _ fun v P1 H1 s1 r1 => by
    obtain ⟨a, dx, gs, rfl, hga, hp⟩ := id r1
    refine ⟨a, dx, gs, rfl, s1.ph _ _ hga, ?_, ?_⟩
    · clear q x hga r1 h hR
      induction hp with
      | nil => rfl
      | @cons x y xs ys hxy _ ih =>
        obtain ⟨x1, x2⟩ := x
        obtain ⟨y1, y2⟩ := y
        obtain ⟨rfl, h2⟩ := hxy
        rw [List.lookup_cons] at hn ⊢
        cases hb : m == x1 with
        | true => rw [hb] at hn; cases hn
        | false =>
          rw [hb] at hn
          exact ih hn
    · refine ha σ P1 H1 s1.ph (env.mono s1.pp) _ fun vs P2 H2 s2 r2 => ⟨P2, .obj c fs :: l, o, s2.ph, .cons (r1.mono s2.pp) (by rw [List.append_nil]; exact r2), hR, fun d hd v P3 H3 s3 r3 => q d hd v P3 H3 ((s1.trans s2).trans s3) r3, fun er he cls dd P3 H3 s3 r3 => x er he cls dd P3 H3 ((s1.trans s2).trans s3) r3⟩
end
section
variable {X : Cx} {W : Wd} {c k : Nat} {m : Str} {ps : List Str} {R : List D → Res → Prop} {o e : Expr} {es : List Expr} {ta : TE} {t : TA} {E : XK} {pos apos : Pos} {pl : Sem Bool}
theorem pe_cm (he : PE X o ta) (C : CM X.prog X.w W X.mg X.base c m k ps R) (hr : Room k X.A) (hx : Passes (L2.CX X.prog X.w) X E) (ha : PA X (e :: es) t) (hK : X.K = W.K := by rfl)
    (hst : starEach (e :: es) X.env = (false, eval e X.env) :: starEach es X.env := by rfl) (hpl : (backTo pos (starEach es X.env)).any (·.1) = false := by rfl)
    (ht : eval (.Call (.Attribute o m apos) (e :: es) [] pos) X.env = (do
      let ov ← eval o X.env
      standAt apos.atName
      let (f, first) ← holding [ov] (getMethod ov m pl)
      callWith pos f first (backTo pos (starEach (e :: es) X.env)) (backToKw pos (keywordEach [] X.env))) := by rfl) :
    PE X (.Call (.Attribute o m apos) (e :: es) [] pos) (tMeth (W.cl c) m (spR W R) [] E ta t) := by
  obtain ⟨f, fd, F1, h1, h2, _⟩ := C.ex
  have hc := C.cl
  rw [← hK] at F1 h1 h2 hc
  exact pe_meth he hc h1 F1 hr h2 .nil hx ha hst hpl ht
end
end Dl

set_option Elab.async false
set_option linter.all false
set_option maxRecDepth 100000
set_option maxHeartbeats 4000000
/-! own methods that builtins call: ==, !=, len, x[i] -/
namespace Dl
open PySem L2 PySem.Spec PyProof.Rows
open Evl (Ex fresh_back sz_of sz_lt ex_l ex_t sq_of st_of)
/-- the class at C finds the def f by this name -/
structure OwnM (K : PySem.W.Frag) (C f : Addr) (name : Str) : Prop where
  es : PySem.W.findIn K (.ref C) name = some (some (.ref f))
  ef : PySem.W.isFn K (.ref f) = true
/-- no __ne__ but object's -/
structure NoNe (K : PySem.W.Frag) (C f : Addr) : Prop where
  cls : ∃ nm q N bs hdct sn sub ab col dd k0 k1 k2 k3 k5 newId, K.lookup C = some (excClassObj nm q C N bs [.type "object"] hdct sn sub ab col dd k0 k1 k2 k3 k5 newId) ∧ PySem.W.nsOkIn K N = true ∧ PySem.W.nsIn K N "__eq__" = some (some (.ref f)) ∧ PySem.W.nsIn K N "__ne__" = some none
  fo : ∃ of, K.lookup f = some of ∧ of.cls = .type "function"
theorem ns_some_of {K : PySem.W.Frag} {h : Heap} {N : Addr} {mg : Str → Option Value} {n : Str} {v : Value} (X : K.In h) (G : h.Ns N mg) (e : PySem.W.nsIn K N n = some (some v)) : mg n = some v := by
  obtain ⟨o, es, ep, ho, hd, _, hf⟩ := G
  unfold PySem.W.nsIn at e
  split at e
  · rename_i c d es' n' sl q
    have := X _ _ q
    rw [ho] at this
    cases this
    cases hd
    split at e
    · rename_i en he
      have e := Option.some.inj e
      rw [← hf]
      unfold nsFind findBy
      rw [← Array.find?_toList, he]
      exact e
    · split at e <;> cases e
  · cases e
section
variable {X : Cx} {C g : Addr} {n : Nat} {sp : Sp} {pins : List (Addr × Obj)} {σ : L2.St} {H : Hp} {s : Shared} {E : XK}
theorem ins_at {a dx : Addr} {fs : List (Str × V)} (I : Inv X pins σ H s) (h : H a = some (.ins C dx fs)) : ∃ ox od, PySem.W.InstAt s.heap a ox C od := by
  obtain ⟨mA, J, _⟩ := ins_get I.hok h
  obtain ⟨od, J, _⟩ := J.look
  exact ⟨_, _, J⟩
/-- x == y by x's own def; y an instance of the same class or an int -/
def rOwnEq (C : Addr) (sp : Sp) (E : XK) : R2 := fun x y H Q => ∃ a dx fs, x = .ref a ∧ H a = some (.ins C dx fs) ∧ ((∃ b dy gs, y = .ref b ∧ H b = some (.ins C dy gs)) ∨ ∃ i, y = .int i) ∧ sp [x, y] H Q E
theorem op_ownEq {CX : CXT} (o : OwnM X.K C g "__eq__") (hi : PySem.W.notFirst X.K C (.type "int") = true) (F : FnR X.prog X.w X.K X.mg X.base CX n g sp) (hr : Room n X.A) (hx : Passes CX X E) : OpR X (compareOp .Eq) (rOwnEq C sp E) := by
  intro pins s σ H x y v u Q I rx ry h
  obtain ⟨a, dx, fs, rfl, ha, hb, q⟩ := h
  cases (show v = Value.ref a from rx)
  obtain ⟨ox, od, J⟩ := ins_at I ha
  obtain ⟨m, hF⟩ := I.fr
  have run := wpAny_mono (wpAny_call (run_fnR (us := [.ref a, u]) (vs := [.ref a, y]) F hr hx I (.cons rfl (.cons ry .nil)) q)) (fun w s' (z : EP X pins σ Q w s') => (show PySem.W.CmpBack (EP X pins σ Q) w s' from by
    obtain ⟨z', H', I', rz, qz⟩ := z
    exact SlX.cmpback rz ⟨z', H', I', rz, qz⟩)) fun _ _ x => x
  show wpAny (model X.prog X.w) X.A (richCompare .Eq (.ref a) u) _ _ _
  rcases hb with ⟨b, dy, gs, rfl, hb⟩ | ⟨i, rfl⟩
  · cases (show u = Value.ref b from ry)
    obtain ⟨ox', od', J'⟩ := ins_at I hb
    exact PySem.W.cmp_K (op := .Eq) (tb := .ref C) hr.units0 hF I.ok.mod.kin J J'.type (by simp [PySem.W.notFirst]) o.es o.ef run
  · obtain ⟨t, rfl⟩ := ry
    exact PySem.W.cmp_K (op := .Eq) (tb := .type "int") hr.units0 hF I.ok.mod.kin J (fun A Q E s k q => wpAny_pure q) hi o.es o.ef run
/-- x != y by object's __ne__, which asks x's own == -/
def rOwnNe (C : Addr) (sp : Sp) (E : XK) : R2 := fun x y H Q => ∃ a dx fs b dy gs, x = .ref a ∧ H a = some (.ins C dx fs) ∧ y = .ref b ∧ H b = some (.ins C dy gs) ∧ sp [x, y] H (fun z H' => ∃ r, z = .bl r ∧ Q (.bl (!r)) H') E
theorem op_ownNe {CX : CXT} (N : NoNe X.K C g) (F : FnR X.prog X.w X.K X.mg X.base CX n g sp) (hr : Room (n + 1) X.A) (hx : Passes CX X E) : OpR X (compareOp .NotEq) (rOwnNe C sp E) := by
  intro pins s σ H x y v u Q I rx ry h
  obtain ⟨a, dx, fs, b, dy, gs, rfl, ha, rfl, hb, q⟩ := h
  cases (show v = Value.ref a from rx)
  cases (show u = Value.ref b from ry)
  obtain ⟨ox, od, J⟩ := ins_at I ha
  obtain ⟨ox', od', J'⟩ := ins_at I hb
  obtain ⟨nm, q1, Nn, bs, hdct, sn, sub, ab, col, dd, k0, k1, k2, k3, k5, newId, hC, hok, he, hne⟩ := N.cls
  obtain ⟨of, hfo, hfc⟩ := N.fo
  have K' := I.kIn
  have hns := Heap.Ns.of_isNs (PySem.W.isNs_of_in K' hok)
  have O : s.heap.OwnEqNoNe a C g "object" [.type "object"] :=
    ⟨ox, of, nm, q1, Nn, bs, hdct, sn, sub, ab, col, dd, k0, k1, k2, k3, k5, newId, _, _, J.at_, J.cls, K' _ _ hC, hns, ns_some_of K' hns he, K' _ _ hfo, hfc, PySem.F.cmp_object.mro, PySem.F.cmp_object.eq.lookup, PySem.W.nsMap_none_of_in K' hok hne⟩
  obtain ⟨hp, g0, dr, tk, os⟩ := s
  have run := wpAny_call (SlX.run_at (us := [.ref a, .ref b]) (ws := [.ref a, .ref b]) F hr.in1 I.env0.in1 hx I (.cons rfl (.cons rfl .nil)) q)
  refine PySem.compareOp_ne_ownEq PySem.F.cmp_object O J'.at_ J'.cls (by have := hr.un; omega) (wpAny_mono run (fun w s' z => ?_) fun _ _ x => x)
  obtain ⟨z', H', I', rz, r, ez, qz⟩ := z
  subst ez
  exact ⟨r, rz, .bl (!r), H', I', rfl, qz⟩
/-- len(x) by x's own def -/
def rOwnLen (C : Addr) (sp : Sp) (E : XK) : List V → Hp → VK → Prop := fun xs H Q => ∃ a dx fs, xs = [.ref a] ∧ H a = some (.ins C dx fs) ∧ sp [.ref a] H (fun z H' => ∃ i, z = .int i ∧ 0 ≤ i ∧ i < 2 ^ 63 ∧ Q z H') E
theorem call_ownLen {CX : CXT} (o : OwnM X.K C g "__len__") (F : FnR X.prog X.w X.K X.mg X.base CX n g sp) (hr : Room (n + 1) X.A) (hx : Passes CX X E) : CallR X (.builtin "len") (rOwnLen C sp E) := by
  intro pins s σ H xs us Q I r h
  obtain ⟨a, dx, fs, rfl, ha, q⟩ := h
  obtain ⟨u, rfl, ru⟩ := r.one
  cases (show u = Value.ref a from ru)
  obtain ⟨ox, od, J⟩ := ins_at I ha
  obtain ⟨m, hF⟩ := I.fr
  refine PySem.W.len_K hF I.ok.mod.kin J o.es o.ef (wpAny_mono (wpAny_call (SlX.run_at (us := [.ref a]) (ws := [.ref a]) F hr.in1 I.env0.in1 hx I (.cons rfl .nil) q)) (fun w s' z => ?_) fun _ _ x => x)
  obtain ⟨z', H', I', rz, i, ez, h0, h1, qz⟩ := z
  subst ez
  obtain ⟨t, rfl⟩ := rz
  exact ⟨⟨h0, h1⟩, .int i, H', I'.tok _, ⟨_, rfl⟩, qz⟩
/-- x[e] by x's own def -/
def tOwnIx (C : Addr) (sp : Sp) (E : XK) (ta tb : TE) : TE := fun σ H Q => ta σ H fun x H1 => tb σ H1 fun y H2 => ∃ a dx fs, x = .ref a ∧ H2 a = some (.ins C dx fs) ∧ sp [x, y] H2 Q E
theorem pe_ownIx {CX : CXT} {e e2 : Expr} {ta tb : TE} {pos : Pos} (o : OwnM X.K C g "__getitem__") (hf : PySem.W.fnIn X.K g = true) (F : FnR X.prog X.w X.K X.mg X.base CX n g sp) (hr : Room (n + 1) X.A) (hx : Passes CX X E) (ha : PE X e ta) (hb : PE X e2 tb)
    (hsl : ∀ (x : Addr) (i : Value), subscripted e2 true (.ref x) i = runValue (.builtin "lifetime.subscript" ⟨[.ref x, i], []⟩)) : PE X (.Subscript e e2 pos) (tOwnIx C sp E ta tb) := by
  refine ⟨fun pins s σ H Q I h => ?_⟩
  refine Subscript_ (binT (R := fun x y H2 => ∃ a dx fs, x = .ref a ∧ H2 a = some (.ins C dx fs) ∧ sp [x, y] H2 Q E) ha hb I h fun v u s2 x y H2 I2 rx ry q => ?_)
  obtain ⟨a, dx, fs, rfl, ha, q⟩ := q
  cases (show v = Value.ref a from rx)
  obtain ⟨ox, od, J⟩ := ins_at I2 ha
  obtain ⟨m, hF⟩ := I2.fr
  exact PySem.W.sub_K hF I2.ok.mod.kin J o.es hf o.ef (wpAny_call (SlX.run_at (us := [.ref a, u]) (ws := [.ref a, y]) F hr.in1 I2.env0.in1 hx I2 (.cons rfl (.cons ry .nil)) q)) (hsl a u)
/-- len(range(e)) -/
def tLenRg (te : L2.St → Hp → (Int → Int → Hp → Prop) → Prop) : TE := fun σ H Q => te σ H fun a b H1 => RgOk a b ∧ Q (.int ((b - a).toNat : Nat)) H1
theorem pe_lenRg {e : Expr} {te : L2.St → Hp → (Int → Int → Hp → Prop) → Prop} {p pos : Pos} (hg : Gl X "len") (hm : X.mg "len" = none) (he : PRg X e te) (na : starEach [e] X.env = (false, eval e X.env) :: starEach [] X.env := by rfl) : PE X (.Call (.Name "len" p) [e] [] pos) (tLenRg te) := by
  refine ⟨fun pins s σ H Q I h => ?_⟩
  refine Call_ (ld_blt I hg hm boot_len (PyProof.Rows.callWith_builtin1 (args_cons (thn (he pins s σ H _ I h) fun x s1 ⟨r, a, b, t, u, v, H1, ex, hr, I1, ok, q⟩ => args_nil ?_) na) na))
  subst ex
  obtain ⟨b1, b2, b3, b4, b5⟩ := ok
  exact PySem.call_len_range (n := (b - a).toNat) hr (rangeSize_nat a b) (by omega) ⟨.int ((b - a).toNat : Nat), H1, I1.tok _, ⟨_, rfl⟩, q⟩
end
end Dl

set_option Elab.async false
set_option linter.all false
set_option maxRecDepth 100000
set_option maxHeartbeats 4000000
/-! slices and sums of data -/
namespace L2
open PySem PySem.Spec PyProof.Rows
/-- list + list, any lists -/
def rCatS (K : PySem.W.Frag) : R2 := fun x y H Q => ∃ l b xs zs, x = .ref l ∧ y = .ref b ∧ SqL K H l xs ∧ SqL K H b zs ∧ xs.length + zs.length ≤ sizeLine ∧ ∀ p, H p = none → Q (.ref p) (upd H p (.lst (xs ++ zs)))
theorem op_catS {X : Cx} : OpR X (binaryOp .Add) (rCatS X.K) := by
  intro pins s σ H x y v u Q I rx ry h
  obtain ⟨l, b, xs, zs, rfl, rfl, hH, hB, hz, q⟩ := h
  cases rx
  cases ry
  obtain ⟨vs, r, hl, z1⟩ := I.list hH
  obtain ⟨ws, r2, hb, z2⟩ := I.list hB
  obtain ⟨⟨cls, dd, data, sl⟩, ho, hc, n, hd⟩ := hl.isList
  obtain ⟨⟨cls2, dd2, data2, sl2⟩, ho2, hc2, n2, hd2⟩ := hb.isList
  simp only at hc hd hc2 hd2
  subst hc hd hc2 hd2
  have e : vs.toArray ++ ws.toArray = (vs ++ ws).toArray := by simp
  have hl := r.length
  have hl2 := r2.length
  refine concat_meets ⟨_, ho, rfl⟩ ⟨_, ho2, rfl⟩ noFill_list_add seq_list_add PySem.F.slot_list_add PySem.F.entry_list_add (PySem.F.args_list_add_2 _ _) (list_addW l b vs.toArray ws.toArray n n2 dd dd2 sl sl2 (by simp; omega)) ⟨ho, ho2, ?_⟩
  rw [e]
  exact ⟨.ref _, _, I.lnew (t' := s.toks) (r.append r2) (by rw [List.length_append]; omega), rfl, q _ I.fresh⟩
end L2
namespace Dl
open PySem L2 PySem.Spec PyProof.Rows
open Evl (Ex fresh_back sz_of sz_lt ex_l ex_t sq_of st_of)
/-- xs[lo:hi] of data -/
def cutD (xs : List PyData) (lo hi : Option Int) : List PyData := (xs.drop (HT.sIx xs.length 0 lo)).take (HT.sIx xs.length xs.length hi - HT.sIx xs.length 0 lo)
section
variable {W : Wd} {ds : DS} {te tl th ta : TE}
theorem DpAll.cut {K : PySem.W.Frag} {H : Hp} {vs : List V} {xs : List PyData} (r : DpAll K H vs xs) (lo hi : Option Int) : DpAll K H (cutV vs lo hi) (cutD xs lo hi) := by
  unfold cutV cutD
  rw [DpAll.len r]
  exact DpAll.take _ (DpAll.drop _ r)
def EP (W : Wd) (to : TO) (ds : DS) (o : Option Int) : Prop := EO W to ds o
theorem eo_none : EO W tNoPart ds none := fun σ P H e env Q q => q P H (Step.refl e)
theorem eo_some {i : Int} (h : ED W te ds (pI i)) : EO W (tPart te) ds (some i) := fun σ P H e env Q q => h σ P H e env _ fun v P1 H1 s1 r1 => by
  cases r1
  exact ⟨i, rfl, q P1 H1 s1⟩
theorem ed_slL {xs : List PyData} {lo hi : Option Int} {tlo thi : TO} (h : ED W te ds (pL xs)) (h1 : EO W tlo ds lo) (h2 : EO W thi ds hi) : ED W (tSl (rSlL W.K) te tlo thi) ds (pL (cutD xs lo hi)) := fun σ P H e env Q q =>
  h σ P H e env _ fun v P1 H1 s1 r1 => h1 σ P1 H1 s1.ph (env.mono s1.pp) _ fun P2 H2 s2 => h2 σ P2 H2 s2.ph (env.mono (s1.trans s2).pp) _ fun P3 H3 s3 => by
    have t := (s1.trans s2).trans s3
    cases r1 with
    | @lst p ys _ hs ha =>
      refine ⟨p, ys, rfl, ex_l t.ph (ex_l (s2.trans s3).pp hs), fun a hn => ?_⟩
      have st := Step.new (o := .lst (cutV ys lo hi)) t.ph hn
      exact q _ _ _ (t.trans st) (Dp.lst (sq_of upd_same) (dpa_mono ((s2.trans s3).trans st).pp (DpAll.cut ha lo hi)))
theorem ed_slT {xs : List PyData} {lo hi : Option Int} {tlo thi : TO} (h : ED W te ds (pT xs)) (h1 : EO W tlo ds lo) (h2 : EO W thi ds hi) : ED W (tSl (rSlA W.K) te tlo thi) ds (pT (cutD xs lo hi)) := fun σ P H e env Q q =>
  h σ P H e env _ fun v P1 H1 s1 r1 => h1 σ P1 H1 s1.ph (env.mono s1.pp) _ fun P2 H2 s2 => h2 σ P2 H2 s2.ph (env.mono (s1.trans s2).pp) _ fun P3 H3 s3 => by
    have t := (s1.trans s2).trans s3
    cases r1 with
    | @tup p ys _ hs ha =>
      have hl := DpAll.len ha
      refine ⟨p, ys, rfl, ex_t t.ph (ex_t (s2.trans s3).pp hs), fun hw => ?_, fun _ a hn => ?_⟩
      · rw [hl] at hw
        have e : cutD xs lo hi = xs := by
          unfold cutD
          rw [hw.1, hw.2, List.drop_zero, Nat.sub_zero, List.take_length]
        rw [e] at q
        exact q _ _ _ t (dp_mono (s2.trans s3).pp (Dp.tup hs ha))
      · have st := Step.new (o := .tup (cutV ys lo hi)) t.ph hn
        exact q _ _ _ (t.trans st) (Dp.tup (st_of upd_same) (dpa_mono ((s2.trans s3).trans st).pp (DpAll.cut ha lo hi)))
theorem rd_catL {xs ys : List PyData} (hz : xs.length + ys.length ≤ 100000) : RD2 W (rCatS W.K) (pL xs) (pL ys) (pL (xs ++ ys)) := fun P H v w e r1 r2 Q q => by
  cases r1 with
  | @lst a us _ hs ha => cases r2 with
    | @lst b ws _ ht hb =>
      have l1 := DpAll.len ha
      have l2 := DpAll.len hb
      refine ⟨a, b, us, ws, rfl, rfl, ex_l e hs, ex_l e ht, sz_dp (by omega), fun p hn => ?_⟩
      have st := Step.new (o := .lst (us ++ ws)) e hn
      exact q _ _ _ st (Dp.lst (sq_of upd_same) (dpa_mono st.pp (DpAll.app ha hb)))
theorem rd_catT {xs ys : List PyData} (hz : xs.length + ys.length ≤ 100000) : RD2 W (rCatA W.K) (pT xs) (pT ys) (pT (xs ++ ys)) := fun P H v w e r1 r2 Q q => by
  cases r1 with
  | @tup a us _ hs ha => cases r2 with
    | @tup b ws _ ht hb =>
      have l1 := DpAll.len ha
      have l2 := DpAll.len hb
      refine ⟨a, b, us, ws, rfl, rfl, ex_t e hs, ex_t e ht, sz_dp (by omega), fun hx => ?_, fun hx hy => ?_, fun hx hy p hn => ?_⟩
      · subst hx
        cases ha
        exact q _ P H (Step.refl e) (Dp.tup ht hb)
      · subst hy
        cases hb
        rw [List.append_nil] at q
        exact q _ P H (Step.refl e) (Dp.tup hs ha)
      · have st := Step.new (o := .tup (us ++ ws)) e hn
        exact q _ _ _ st (Dp.tup (st_of upd_same) (dpa_mono st.pp (DpAll.app ha hb)))
/-- sum of ints -/
theorem rda_sum {ns : List Int} : RDA W (rSum W.K) [pL (ns.map PyData.int)] (pI ns.sum) := fun P H vs e r Q q => by
  cases r with
  | cons r1 r2 =>
    cases r2
    cases r1 with
    | @lst p xs l hs ha =>
      have z := dpa_ints ha
      subst z
      exact ⟨p, ns, rfl, ex_l e hs, q _ P H (Step.refl e) (Dp.int _)⟩
/-- int(x) of an int -/
theorem rda_int {i : Int} : RDA W (fun xs H Q => (∃ i, xs = [.int i] ∧ Q (.int i) H) ∨ ∃ k, xs = [.bl k] ∧ Q (.int (if k then 1 else 0)) H) [pI i] (pI i) := fun P H vs e r Q q => by
  cases r with
  | cons r1 r2 =>
    cases r2
    cases r1
    exact .inl ⟨i, rfl, q _ P H (Step.refl e) (Dp.int _)⟩
/-- tuple(x) -/
theorem rda_tupOf {xs : List PyData} : RDA W (fun vs H Q => ∃ p ys, vs = [.ref p] ∧ ((SqL W.K H p ys ∧ ∀ l, H l = none → Q (.ref l) (upd H l (.tup ys))) ∨ (SqT W.K H p ys ∧ Q (.ref p) H))) [pL xs] (pT xs) := fun P H vs e r Q q => by
  cases r with
  | cons r1 r2 =>
    cases r2
    cases r1 with
    | @lst p ys l hs ha =>
      refine ⟨p, ys, rfl, .inl ⟨ex_l e hs, fun a hn => ?_⟩⟩
      have st := Step.new (o := .tup ys) e hn
      exact q _ _ _ st (Dp.tup (st_of upd_same) (dpa_mono st.pp ha))
/-- list(x) of a tuple -/
theorem rda_lstOf {xs : List PyData} : RDA W (fun vs H Q => ∃ p ys, vs = [.ref p] ∧ (SqL W.K H p ys ∨ SqT W.K H p ys) ∧ ∀ l, H l = none → Q (.ref l) (upd H l (.lst ys))) [pT xs] (pL xs) := fun P H vs e r Q q => by
  cases r with
  | cons r1 r2 =>
    cases r2
    cases r1 with
    | @tup p ys l hs ha =>
      refine ⟨p, ys, rfl, .inr (ex_t e hs), fun a hn => ?_⟩
      have st := Step.new (o := .lst ys) e hn
      exact q _ _ _ st (Dp.lst (sq_of upd_same) (dpa_mono st.pp ha))
end
end Dl

set_option Elab.async false
set_option linter.all false
set_option maxRecDepth 100000
set_option maxHeartbeats 4000000
/-! laws: data with a list of draws that is written, and tables of code objects; answers as sets -/
namespace Dl
open PySem L2 PySem.Spec PyProof.Rows
open Evl (Ex fresh_back sz_of sz_lt ex_l ex_t sq_of st_of)
/-- what stays over a law: the draw's list at q (the script at scr, and a number), the script, the tables -/
structure Lw where
  q : Addr
  scr : Addr
  ns : List Int
  T : List (Addr × Str)
structure LH (W : Wd) (L : Lw) (P H : Hp) : Prop where
  ph : Ex P H
  dr : ∃ n, H L.q = some (.lst [.ref L.scr, .int n])
  dq : P L.q = none
  tb : LamX.Tabs L.T H
  tn : ∀ p ∈ L.T, P p.1 = none
  tq : ∀ p ∈ L.T, p.1 ≠ L.q
  sc : RelD W P (.ref L.scr) (pL (L.ns.map PyData.int))
  nt : ∀ a ps, P a ≠ some (.tbl ps)
theorem LH.step {W : Wd} {L : Lw} {P H P' H' : Hp} (h : LH W L P H) (s : Step P H P' H') : LH W L P' H' := by
  obtain ⟨n, hn⟩ := h.dr
  refine ⟨s.ph, ⟨n, s.hh _ _ hn⟩, (s.nw _ _ hn).trans h.dq, h.tb.ext s.hh, fun p hp => ?_, h.tq, h.sc.mono s.pp, fun a ps q => h.nt a ps (s.nt a ps q)⟩
  obtain ⟨ps, h1, _⟩ := h.tb p hp
  exact (s.nw _ _ h1).trans (h.tn p hp)
structure LS (W : Wd) (L : Lw) (P H P' H' : Hp) : Prop where
  pp : Ex P P'
  lh : LH W L P' H'
  st : ∀ a o, H a = some o → a ≠ L.q → (∀ ps, o ≠ .tbl ps) → H' a = some o
  nw : ∀ a o, H a = some o → a ≠ L.q → (∀ ps, o ≠ .tbl ps) → P' a = P a
theorem LS.refl {W : Wd} {L : Lw} {P H : Hp} (h : LH W L P H) : LS W L P H P H := ⟨Ex.refl P, h, fun _ _ z _ _ => z, fun _ _ _ _ _ => rfl⟩
theorem LS.trans {W : Wd} {L : Lw} {P H P1 H1 P2 H2 : Hp} (a : LS W L P H P1 H1) (b : LS W L P1 H1 P2 H2) : LS W L P H P2 H2 :=
  ⟨a.pp.trans b.pp, b.lh, fun x o h n t => b.st x o (a.st x o h n t) n t, fun x o h n t => (b.nw x o (a.st x o h n t) n t).trans (a.nw x o h n t)⟩
theorem LH.ls {W : Wd} {L : Lw} {P H P' H' : Hp} (h : LH W L P H) (s : Step P H P' H') : LS W L P H P' H' := ⟨s.pp, h.step s, fun a o z _ _ => s.hh a o z, fun a o z _ _ => s.nw a o z⟩
def EL (W : Wd) (L : Lw) (te : TE) (ds : DS) (S : D → Prop) : Prop := ∀ (σ : L2.St) (P H : Hp), LH W L P H → EnvD W ds σ P → ∀ Q : VK, (∀ d v P' H', S d → LS W L P H P' H' → RelD W P' v d → Q v H') → te σ H Q
def AL (W : Wd) (L : Lw) (ta : TA) (ds : DS) (S : List D → Prop) : Prop := ∀ (σ : L2.St) (P H : Hp), LH W L P H → EnvD W ds σ P → ∀ Q : List V → Hp → Prop, (∀ l vs P' H', S l → LS W L P H P' H' → RelA W P' vs l → Q vs H') → ta σ H Q
def TL (W : Wd) (L : Lw) (tt : TT) (ds : DS) (S : Bool → Prop) : Prop := ∀ (σ : L2.St) (P H : Hp), LH W L P H → EnvD W ds σ P → ∀ Q : Bool → Hp → Prop, (∀ b P' H', S b → LS W L P H P' H' → Q b H') → tt σ H Q
/-- statements: what may go on, what may be returned -/
def SL (W : Wd) (L : Lw) (ts : TS) (ds : DS) (N : DS → Prop) (R : D → Prop) : Prop := ∀ (σ : L2.St) (P H : Hp) (E : Ends), LH W L P H → EnvD W ds σ P → (∀ ds' σ' P' H', N ds' → LS W L P H P' H' → EnvD W ds' σ' P' → E.nx σ' H') →
  (∀ d v P' H', R d → LS W L P H P' H' → RelD W P' v d → E.rt v H') → ts E σ H
section
variable {W : Wd} {L : Lw} {te ta tb : TE} {tr : TA} {t u : TT} {t1 t2 : TS} {ds : DS} {S S1 S2 : D → Prop} {SA : List D → Prop} {B B2 : Bool → Prop} {N N2 : DS → Prop} {R : D → Prop} {d : D}
theorem ED.el (h : ED W te ds d) : EL W L te ds (· = d) := fun σ P H lh env Q q => h σ P H lh.ph env Q fun v P' H' s r => q d v P' H' rfl (lh.ls s) r
theorem ET.tl {b : Bool} (h : ET W t ds b) : TL W L t ds (· = b) := fun σ P H lh env Q q => h σ P H lh.ph env Q fun P' H' s => q b P' H' rfl (lh.ls s)
theorem EA.al {l : List D} (h : EA W tr ds l) : AL W L tr ds (· = l) := fun σ P H lh env Q q => h σ P H lh.ph env Q fun vs P' H' s r => q l vs P' H' rfl (lh.ls s) r
theorem EL.imp (h : EL W L te ds S1) (i : ∀ d, S1 d → S d) : EL W L te ds S := fun σ P H lh env Q q => h σ P H lh env Q fun d v P' H' s => q d v P' H' (i d s)
theorem TL.imp (h : TL W L t ds B2) (i : ∀ d, B2 d → B d) : TL W L t ds B := fun σ P H lh env Q q => h σ P H lh env Q fun d P' H' s => q d P' H' (i d s)
theorem SL.imp (h : SL W L t1 ds N2 R) (i : ∀ d, N2 d → N d) : SL W L t1 ds N R := fun σ P H E lh env k r => h σ P H E lh env (fun ds' σ' P' H' n => k ds' σ' P' H' (i _ n)) r
theorem el_op {r : R2} (ha : EL W L ta ds S1) (hb : EL W L tb ds S2) (hr : ∀ x y, S1 x → S2 y → ∃ z, S z ∧ RD2 W r x y z) : EL W L (tOp r ta tb) ds S := fun σ P H lh env Q q =>
  ha σ P H lh env _ fun x v P1 H1 sx u1 r1 => hb σ P1 H1 u1.lh (env.mono u1.pp) _ fun y w P2 H2 sy u2 r2 => by
    obtain ⟨z, sz, hz⟩ := hr x y sx sy
    exact hz P2 H2 v w u2.lh.ph (r1.mono u2.pp) r2 Q fun u P3 H3 s3 r3 => q z u P3 H3 sz ((u1.trans u2).trans (u2.lh.ls s3)) r3
theorem al_nil : AL W L tNil ds (· = []) := ea_nil.al
theorem al_cons (ha : EL W L ta ds S1) (hr : AL W L tr ds SA) : AL W L (tCons ta tr) ds (fun l => ∃ d r, l = d :: r ∧ S1 d ∧ SA r) := fun σ P H lh env Q q =>
  ha σ P H lh env _ fun x v P1 H1 sx u1 r1 => hr σ P1 H1 u1.lh (env.mono u1.pp) _ fun l vs P2 H2 sl u2 r2 => q (x :: l) (v :: vs) P2 H2 ⟨x, l, rfl, sx, sl⟩ (u1.trans u2) (.cons (r1.mono u2.pp) r2)
/-- a pure rule on values, the argument of many -/
theorem el_un {te2 : TE} (ha : EL W L ta ds S1) {r : V → Hp → VK → Prop} (hr : ∀ x, S1 x → ∃ z, S z ∧ ∀ (P H : Hp) (v : V), Ex P H → RelD W P v x → ∀ Q : VK, (∀ u P' H', Step P H P' H' → RelD W P' u z → Q u H') → r v H Q) : EL W L (tUn r ta) ds S := fun σ P H lh env Q q =>
  ha σ P H lh env _ fun x v P1 H1 sx u1 r1 => by
    obtain ⟨z, sz, hz⟩ := hr x sx
    exact hz P1 H1 v u1.lh.ph r1 Q fun u P2 H2 s2 r2 => q z u P2 H2 sz (u1.trans (u1.lh.ls s2)) r2
theorem el_cb {r : List V → Hp → VK → Prop} (ha : AL W L tr ds SA) (hr : ∀ l, SA l → ∃ z, S z ∧ RDA W r l z) : EL W L (tCB r tr) ds S := fun σ P H lh env Q q =>
  ha σ P H lh env _ fun l vs P1 H1 sl u1 r1 => by
    obtain ⟨z, sz, hz⟩ := hr l sl
    exact hz P1 H1 vs u1.lh.ph r1 Q fun u P2 H2 s2 r2 => q z u P2 H2 sz (u1.trans (u1.lh.ls s2)) r2
/-- a def that may raise, of which it is known that it doesn't -/
theorem el_callR {RR : List D → Res → Prop} {E : XK} (ha : AL W L tr ds SA) (hR : ∀ l, SA l → ∃ z, S z ∧ RR l (.ok z)) : EL W L (tCall (spR W RR) [] E tr) ds S := fun σ P H lh env Q q =>
  ha σ P H lh env _ fun l vs P1 H1 sl u1 r1 => by
    obtain ⟨z, sz, hz⟩ := hR l sl
    exact ⟨P1, l, .ok z, u1.lh.ph, by rw [List.append_nil]; exact r1, hz, fun d hd v P2 H2 s2 r2 => by cases hd; exact q z v P2 H2 sz (u1.trans (u1.lh.ls s2)) r2, fun er he => by cases he⟩
/-- promises of the law's defs that draw -/
def spL (W : Wd) (L : Lw) (RL : List D → (D → Prop) → Prop) : Sp := fun vs H Q _ => ∃ P l S, LH W L P H ∧ RelA W P vs l ∧ RL l S ∧ ∀ d v P' H', S d → LS W L P H P' H' → RelD W P' v d → Q v H'
theorem el_call {RL : List D → (D → Prop) → Prop} {E : XK} (ha : AL W L tr ds SA) (hR : ∀ l, SA l → RL l S) : EL W L (tCall (spL W L RL) [] E tr) ds S := fun σ P H lh env Q q =>
  ha σ P H lh env _ fun l vs P1 H1 sl u1 r1 => ⟨P1, l, S, u1.lh, by rw [List.append_nil]; exact r1, hR l sl, fun d v P2 H2 sd u2 r2 => q d v P2 H2 sd (u1.trans u2) r2⟩
/-! tests -/
theorem tl_test (h : EL W L te ds S) (hS : ∀ d, S d → ∃ b, d = pB b ∧ B b) : TL W L (tTest te) ds B := fun σ P H lh env Q q => h σ P H lh env _ fun d v P1 H1 sd u1 r1 => by
  obtain ⟨b, rfl, hb⟩ := hS d sd
  cases r1
  exact ⟨b, rfl, q b P1 H1 hb u1⟩
theorem tl_B (h : EL W L te ds S) (hS : ∀ d, S d → ∃ b, d = pB b ∧ B b) : TL W L (tB te) ds B := fun σ P H lh env Q q => h σ P H lh env _ fun d v P1 H1 sd u1 r1 => by
  obtain ⟨b, rfl, hb⟩ := hS d sd
  cases r1
  exact ⟨b, rfl, q b P1 H1 hb u1⟩
theorem tl_not (h : TL W L t ds B) : TL W L (tNot t) ds (fun b => B (!b)) := fun σ P H lh env Q q => h σ P H lh env _ fun b P1 H1 hb u1 => q (!b) P1 H1 (by show B (!(!b)); rw [Bool.not_not]; exact hb) u1
theorem tl_or (h1 : TL W L t ds B2) (h2 : TL W L u ds B) (hB : B2 true → B true) : TL W L (tOr t u) ds B := fun σ P H lh env Q q => h1 σ P H lh env _ fun b P1 H1 hb u1 => by
  cases b with
  | true => exact q true P1 H1 (hB hb) u1
  | false => exact h2 σ P1 H1 u1.lh (env.mono u1.pp) Q fun b P2 H2 hb2 u2 => q b P2 H2 hb2 (u1.trans u2)
theorem tl_and (h1 : TL W L t ds B2) (h2 : TL W L u ds B) (hB : B2 false → B false) : TL W L (tAnd t u) ds B := fun σ P H lh env Q q => h1 σ P H lh env _ fun b P1 H1 hb u1 => by
  cases b with
  | false => exact q false P1 H1 (hB hb) u1
  | true => exact h2 σ P1 H1 u1.lh (env.mono u1.pp) Q fun b P2 H2 hb2 u2 => q b P2 H2 hb2 (u1.trans u2)
/-! statements -/
theorem SD.sl {o : DS} (h : SD W t1 ds (.nx o)) : SL W L t1 ds (· = o) R := fun σ P H E lh env k r => h σ P H E lh.ph env fun σ' P' H' s e => k o σ' P' H' rfl (lh.ls s) e
theorem SD.slr (h : SD W t1 ds (.rt d)) (hd : R d) : SL W L t1 ds N R := fun σ P H E lh env k r => h σ P H E lh.ph env fun v P' H' s e => r d v P' H' hd (lh.ls s) e
theorem sl_seq (h1 : SL W L t1 ds N2 R) (h2 : ∀ ds', N2 ds' → SL W L t2 ds' N R) : SL W L (tSeq t1 t2) ds N R := fun σ P H E lh env k r =>
  h1 σ P H { E with nx := t2 E } lh env (fun ds1 σ1 P1 H1 n u1 env1 => h2 ds1 n σ1 P1 H1 E u1.lh env1 (fun ds' σ' P' H' n' u' env' => k ds' σ' P' H' n' (u1.trans u') env') fun d v P' H' rd u' r' => r d v P' H' rd (u1.trans u') r') r
theorem sl_asg {j : Nat} (h : EL W L te ds S) : SL W L (tAsg te (gName j)) ds (fun ds' => ∃ d, S d ∧ ds' = ds.set j (some d)) R := fun σ P H E lh env k r =>
  h σ P H lh env _ fun d v P1 H1 sd u1 r1 => k _ _ P1 H1 ⟨d, sd, rfl⟩ u1 ((env.mono u1.pp).set j r1)
theorem sl_drop (h : EL W L te ds S) : SL W L (tDrop te) ds (· = ds) R := fun σ P H E lh env k r => h σ P H lh env _ fun d v P1 H1 sd u1 r1 => k ds σ P1 H1 rfl u1 (env.mono u1.pp)
theorem sl_ret (h : EL W L te ds S) (hS : ∀ d, S d → R d) : SL W L (tRet te) ds N R := fun σ P H E lh env k r => h σ P H lh env _ fun d v P1 H1 sd u1 r1 => r d v P1 H1 (hS d sd) u1 r1
theorem sl_if (h : TL W L t ds B) (h1 : B true → SL W L t1 ds N R) (h2 : B false → SL W L t2 ds N R) : SL W L (tIfS t t1 t2) ds N R := fun σ P H E lh env k r =>
  h σ P H lh env _ fun b P1 H1 hb u1 => by
    have k' : ∀ ds' σ' P' H', N ds' → LS W L P1 H1 P' H' → EnvD W ds' σ' P' → E.nx σ' H' := fun ds' σ' P' H' n e' => k ds' σ' P' H' n (u1.trans e')
    have r' : ∀ d v P' H', R d → LS W L P1 H1 P' H' → RelD W P' v d → E.rt v H' := fun d v P' H' n e' => r d v P' H' n (u1.trans e')
    cases b with
    | true => exact h1 hb σ P1 H1 E u1.lh (env.mono u1.pp) k' r'
    | false => exact h2 hb σ P1 H1 E u1.lh (env.mono u1.pp) k' r'
theorem sl_next : SL W L tNext ds (· = ds) R := fun σ P H E lh env k r => k ds σ P H rfl (LS.refl lh) env
/-- a test that says False each time: the suite is not run -/
theorem sl_never (h : TL W L t ds B) (hb : ¬ B true) : SL W L (tIfS t t1 tNext) ds (· = ds) R := sl_if h (fun z => absurd z hb) (fun _ => sl_next)
end
/-! for loops over ranges, tuples, enumerated lists; I: what holds of the slots ahead of each turn -/
section
variable {W : Wd} {L : Lw} {tb : TS} {ta tl : TE} {tr : TA} {ds : DS} {R : D → Prop} {j : Nat}
theorem sl_forR1 {hi : Int} (I : Nat → DS → Prop) (h : EA W tr ds [pI hi]) (h0 : I 0 ds) (hb : -(2 ^ 62) ≤ hi ∧ hi < 2 ^ 62) (hs : ∀ k ds', k < hi.toNat → I k ds' → SL W L tb (ds'.set j (some (pI (k : Int)))) (I (k + 1)) R) :
    SL W L (tFor (iRng1 tr) (gName j) tb) ds (I hi.toNat) R := fun σ P H E lh env k r =>
  h σ P H lh.ph env _ fun vs P1 H1 s1 r1 => by
    obtain rfl : vs = [.int hi] := by
      cases r1 with
      | cons a r => cases r; cases a; rfl
    refine ⟨hi, rfl, hb.1, hb.2, fun i m σ' H' => m = hi.toNat - i ∧ i ≤ hi.toNat ∧ ∃ ds' P', I i ds' ∧ LS W L P H P' H' ∧ EnvD W ds' σ' P', ⟨hi.toNat, by omega, by omega, ds, P1, h0, lh.ls s1, env.mono s1.pp⟩, ?_⟩
    rintro i m σ' H' ⟨hm, hi', ds', P', hI, u', env'⟩
    by_cases hlt : i < hi.toNat
    · refine Or.inr ⟨hlt, fun σ'' H'' => ∃ m', m' < m ∧ (m' = hi.toNat - (i + 1) ∧ i + 1 ≤ hi.toNat ∧ ∃ ds' P', I (i + 1) ds' ∧ LS W L P H P' H'' ∧ EnvD W ds' σ'' P'), fun _ _ z => z, ?_⟩
      rintro x H'' ⟨rfl, rfl⟩
      have ez : (0 : Int) + (i : Int) = (i : Int) := Int.zero_add _
      rw [ez]
      refine hs i ds' hlt hI _ P' _ _ u'.lh (env'.set j (d := pI _) (Dp.int _)) (fun ds2 σ2 P2 H2 n2 u2 env2 => ?_) fun d v P2 H2 rd u2 r2 => r d v P2 H2 rd (u'.trans u2) r2
      exact ⟨hi.toNat - (i + 1), by omega, rfl, by omega, ds2, P2, n2, u'.trans u2, env2⟩
    · have : i = hi.toNat := by omega
      subst this
      exact Or.inl ⟨Nat.le_refl _, k ds' σ' P' H' hI u' env'⟩
theorem sl_forT {xs : List PyData} (I : Nat → DS → Prop) (h : ED W tl ds (pT xs)) (h0 : I 0 ds) (hs : ∀ k ds' x, xs[k]? = some x → I k ds' → SL W L tb (ds'.set j (some (.py x))) (I (k + 1)) R) :
    SL W L (tFor (iTup W.K tl) (gName j) tb) ds (I xs.length) R := fun σ P H E lh env k r =>
  h σ P H lh.ph env _ fun v P1 H1 s1 r1 => by
    cases r1 with
    | @tup a us _ ha hd =>
      have hl := DpAll.len hd
      have atH : ∀ {P' H' : Hp}, Ex P1 P' → Ex P' H' → SqT W.K H' a us := fun e1 e2 => ex_t e2 (ex_t e1 ha)
      refine ⟨a, rfl, ⟨us, atH (Ex.refl _) s1.ph⟩, fun i m σ' H' => m = xs.length - i ∧ i ≤ xs.length ∧ ∃ ds' P', I i ds' ∧ LS W L P H P' H' ∧ Ex P1 P' ∧ EnvD W ds' σ' P', ⟨xs.length, by omega, by omega, ds, P1, h0, lh.ls s1, Ex.refl _, env.mono s1.pp⟩, ?_⟩
      rintro i m σ' H' ⟨hm, hi', ds', P', hI, u', e1', env'⟩
      have sq := atH e1' u'.lh.ph
      by_cases hlt : i < xs.length
      · have hx := List.getElem?_eq_getElem hlt
        obtain ⟨v, hv, rv⟩ := DpAll.get hd hx
        refine Or.inr ⟨⟨us, v, sq, hv⟩, fun σ'' H'' => ∃ m', m' < m ∧ (m' = xs.length - (i + 1) ∧ i + 1 ≤ xs.length ∧ ∃ ds' P', I (i + 1) ds' ∧ LS W L P H P' H'' ∧ Ex P1 P' ∧ EnvD W ds' σ'' P'), fun _ _ z => z, ?_⟩
        rintro x H'' ⟨rfl, hx2⟩
        have ev := hx2 us sq
        rw [hv] at ev
        cases ev
        refine hs i ds' _ hx hI _ P' _ _ u'.lh (env'.set j (d := .py _) (dp_mono e1' rv)) (fun ds2 σ2 P2 H2 n2 u2 env2 => ?_) fun d v P2 H2 rd u2 r2 => r d v P2 H2 rd (u'.trans u2) r2
        exact ⟨xs.length - (i + 1), by omega, rfl, by omega, ds2, P2, n2, u'.trans u2, e1'.trans u2.pp, env2⟩
      · have : i = xs.length := by omega
        subst this
        exact Or.inl ⟨⟨us, sq, by omega⟩, k ds' σ' P' H' hI u' env'⟩
end
end Dl

set_option Elab.async false
set_option linter.all false
set_option maxRecDepth 100000
set_option maxHeartbeats 4000000
namespace Dl
open PySem L2 PySem.Spec PyProof.Rows
open Evl (Ex fresh_back sz_of sz_lt ex_l ex_t sq_of st_of)
/-! ### the draw's list -/
section
variable {W : Wd} {L : Lw} {ds : DS} {R : D → Prop}
theorem LH.sq {P H : Hp} (h : LH W L P H) : ∃ n, SqL W.K H L.q [.ref L.scr, .int n] := by
  obtain ⟨n, hn⟩ := h.dr
  exact ⟨n, sq_of hn⟩
/-- draw[0] -/
theorem el_draw0 {i : Nat} (h : ds[i]? = some (some (.at L.q))) : EL W L (tOp (rIxL W.K) (tVar i) (tC (.int 0))) ds (· = pL (L.ns.map PyData.int)) := fun σ P H lh env Q q => by
  obtain ⟨v, hv, rv⟩ := env.get i _ h
  cases rv
  obtain ⟨n, hn⟩ := lh.sq
  exact ⟨_, hv, L.q, _, 0, .ref L.scr, rfl, rfl, hn, rfl, q _ _ P H rfl (LS.refl lh) lh.sc⟩
/-- draw[1] -/
theorem el_draw1 {i : Nat} (h : ds[i]? = some (some (.at L.q))) : EL W L (tOp (rIxL W.K) (tVar i) (tC (.int 1))) ds (fun d => ∃ n, d = pI n) := fun σ P H lh env Q q => by
  obtain ⟨v, hv, rv⟩ := env.get i _ h
  cases rv
  obtain ⟨n, hn⟩ := lh.sq
  exact ⟨_, hv, L.q, _, 1, .int n, rfl, rfl, hn, rfl, q (pI n) _ P H ⟨n, rfl⟩ (LS.refl lh) (Dp.int n)⟩
/-- draw[1] = e -/
theorem sl_tick {i : Nat} {te : TE} (h : ds[i]? = some (some (.at L.q))) (he : EL W L te ds (fun d => ∃ n, d = pI n)) : SL W L (tAsg te (gSub (tVar i) (tC (.int 1)) rSetL)) ds (· = ds) R := fun σ P H E lh env k r =>
  he σ P H lh env _ fun d v P1 H1 sd u1 r1 => by
    obtain ⟨n, rfl⟩ := sd
    cases r1
    obtain ⟨w, hw, rw'⟩ := env.get i _ h
    cases rw'
    obtain ⟨m, hm⟩ := u1.lh.dr
    refine ⟨_, hw, L.q, _, 1, 1, rfl, rfl, hm, rfl, ?_⟩
    have eP : Ex P1 (upd H1 L.q (.lst [.ref L.scr, .int n])) := fun a o q => by
      rw [upd_ne (ne_of_none q u1.lh.dq)]
      exact u1.lh.ph a o q
    have keep : ∀ a o, H1 a = some o → a ≠ L.q → upd H1 L.q (.lst [.ref L.scr, .int n]) a = some o := fun a o q hn => by rw [upd_ne hn]; exact q
    have lh2 : LH W L P1 (upd H1 L.q (.lst [.ref L.scr, .int n])) := by
      refine ⟨eP, ⟨n, upd_same⟩, u1.lh.dq, fun p hp => ?_, u1.lh.tn, u1.lh.tq, u1.lh.sc, u1.lh.nt⟩
      obtain ⟨ps, h1, h2, h3⟩ := u1.lh.tb p hp
      refine ⟨ps, keep _ _ h1 (u1.lh.tq p hp), h2, fun pos cv hc => ?_⟩
      obtain ⟨c, e1, e2⟩ := h3 pos cv hc
      refine ⟨c, e1, keep _ _ e2 fun z => ?_⟩
      rw [z, hm] at e2
      cases e2
    exact k ds σ P1 _ rfl (u1.trans ⟨Ex.refl _, lh2, fun a o q hn _ => keep a o q hn, fun _ _ _ _ _ => rfl⟩) (env.mono u1.pp)
end
/-! ### comprehensions with draws: some of the items -/
structure LcM (W : Wd) (L : Lw) (P1 H1 : Hp) (Dd : Addr) (l : List PyData) (H' : Hp) : Prop where
  ex : ∃ (Pi : Hp) (acc : List V), LH W L Pi H' ∧ Ex P1 Pi ∧ (∀ a o, H1 a = some o → a ≠ L.q → (∀ ps, o ≠ .tbl ps) → H' a = some o ∧ Pi a = P1 a) ∧ Pi Dd = none ∧ H' Dd = some (.lst acc) ∧ DpAll W.K Pi acc l
section
variable {W : Wd} {L : Lw} {P1 H1 : Hp} {Dd : Addr}
theorem LH.new {P H : Hp} {p : Addr} {o : HO} (h : LH W L P H) (hn : H p = none) : LH W L P (upd H p o) := by
  obtain ⟨n, hq⟩ := h.dr
  have keep : ∀ a u, H a = some u → upd H p o a = some u := fun a u q => by rw [upd_ne (ne_of_none q hn)]; exact q
  exact ⟨fun a u q => keep a u (h.ph a u q), ⟨n, keep _ _ hq⟩, h.dq, h.tb.ext keep, h.tn, h.tq, h.sc, h.nt⟩
theorem LcM.start (h : LH W L P1 H1) (hn : H1 Dd = none) : LcM W L P1 H1 Dd [] (upd H1 Dd (.lst [])) :=
  ⟨P1, [], h.new hn, Ex.refl _, fun a o q _ _ => ⟨by rw [upd_ne (ne_of_none q hn)]; exact q, rfl⟩, fresh_back h.ph hn, upd_same, .nil⟩
theorem LcM.q {l : List PyData} {H' : Hp} (lh : LH W L P1 H1) (hn : H1 Dd = none) : Dd ≠ L.q := fun z => by
  obtain ⟨n, hq⟩ := lh.dr
  rw [← z, hn] at hq
  cases hq
/-- the list is done -/
theorem LcM.fin {l : List PyData} {H' : Hp} (lh : LH W L P1 H1) (h : LcM W L P1 H1 Dd l H') (hn : H1 Dd = none) : ∃ P', LS W L P1 H1 P' H' ∧ Dp W.K P' (.ref Dd) (.list l) := by
  obtain ⟨Pi, acc, h1, h2, h3, h4, h5, h6⟩ := h.ex
  have hq := LcM.q (l := l) (H' := H') lh hn
  have en : Ex Pi (upd Pi Dd (.lst acc)) := Ex.new h4
  have eT : ∀ p ∈ L.T, p.1 ≠ Dd := fun p hp z => by
    obtain ⟨ps, e1, _⟩ := lh.tb p hp
    rw [z, hn] at e1
    cases e1
  refine ⟨upd Pi Dd (.lst acc), ⟨h2.trans en, ⟨fun a o q => ?_, h1.dr, by rw [upd_ne (Ne.symm hq)]; exact h1.dq, h1.tb, fun p hp => by rw [upd_ne (eT p hp)]; exact h1.tn p hp, h1.tq, h1.sc.mono en, fun a ps q => ?_⟩, fun a o q n t => (h3 a o q n t).1, fun a o q n t => ?_⟩, Dp.lst (sq_of upd_same) (dpa_mono en h6)⟩
  · by_cases ha : a = Dd
    · subst ha
      rw [upd_same] at q
      rw [h5]
      exact q
    · rw [upd_ne ha] at q
      exact h1.ph a o q
  · by_cases ha : a = Dd
    · subst ha
      rw [upd_same] at q
      cases q
    · rw [upd_ne ha] at q
      exact h1.nt a ps q
  · rw [upd_ne (ne_of_none q hn)]
    exact (h3 a o q n t).2
theorem lc_turnM {l : List PyData} {H' : Hp} {σ2 : L2.St} {ds2 : DS} {tt : TT} {te : TE} {B : Bool → Prop} {d : PyData} (lh : LH W L P1 H1) (h : LcM W L P1 H1 Dd l H') (hn : H1 Dd = none) (hz : l.length < 100000)
    (env : EnvD W ds2 σ2 P1) (ht : TL W L tt ds2 B) (he : ED W te ds2 (.py d)) {Nx : Hp → Prop} (hN : ∀ (b : Bool) H'', LcM W L P1 H1 Dd (l ++ fm b d) H'' → Nx H'') :
    tt σ2 H' fun b H3 => if b = true then te σ2 H3 fun y H4 => ∃ acc, H4 Dd = some (.lst acc) ∧ acc.length < sizeLine ∧ Nx (upd H4 Dd (.lst (acc ++ [y]))) else Nx H3 := by
  obtain ⟨Pi, acc, h1, h2, h3, h4, h5, h6⟩ := h.ex
  have hq := LcM.q (l := l) (H' := H') lh hn
  refine ht σ2 Pi H' h1 (env.mono h2) _ fun b P3 H3 hb u3 => ?_
  have nt : ∀ ps, HO.lst acc ≠ .tbl ps := fun ps z => by cases z
  cases b with
  | true =>
    show te σ2 H3 _
    refine he σ2 P3 H3 u3.lh.ph (env.mono (h2.trans u3.pp)) _ fun y P4 H4 s4 r4 => ?_
    have u := u3.trans (u3.lh.ls s4)
    have e5 : P4 Dd = none := by rw [u.nw Dd _ h5 hq nt]; exact h4
    have hD := u.st Dd _ h5 hq nt
    refine ⟨acc, hD, by rw [DpAll.len h6]; exact sz_lt hz, hN true _ ⟨P4, acc ++ [y], ?_, h2.trans u.pp, fun a o q n t => ?_, e5, upd_same, ?_⟩⟩
    · -- the list that is made is not of the law's own
      obtain ⟨n, hqn⟩ := u.lh.dr
      have keep : ∀ a o, H4 a = some o → a ≠ Dd → upd H4 Dd (.lst (acc ++ [y])) a = some o := fun a o q hne => by rw [upd_ne hne]; exact q
      refine ⟨fun a o q => keep a o (u.lh.ph a o q) (ne_of_none q e5), ⟨n, keep _ _ hqn (Ne.symm hq)⟩, u.lh.dq, fun p hp => ?_, u.lh.tn, u.lh.tq, u.lh.sc, u.lh.nt⟩
      obtain ⟨ps, e1, e2, e3⟩ := u.lh.tb p hp
      refine ⟨ps, keep _ _ e1 (fun z => ?_), e2, fun pos cv hc => ?_⟩
      · rw [z, hD] at e1; cases e1
      · obtain ⟨c, f1, f2⟩ := e3 pos cv hc
        refine ⟨c, f1, keep _ _ f2 fun z => ?_⟩
        rw [z, hD] at f2
        cases f2
    · obtain ⟨k1, k2⟩ := h3 a o q n t
      exact ⟨by rw [upd_ne (ne_of_none q hn)]; exact u.st a o k1 n t, (u.nw a o k1 n t).trans k2⟩
    · exact DpAll.app (dpa_mono u.pp h6) (.cons r4 .nil)
  | false =>
    show Nx H3
    refine hN false _ ⟨P3, acc, u3.lh, h2.trans u3.pp, fun a o q n t => ?_, by rw [u3.nw Dd _ h5 hq nt]; exact h4, u3.st Dd _ h5 hq nt, ?_⟩
    · obtain ⟨k1, k2⟩ := h3 a o q n t
      exact ⟨u3.st a o k1 n t, (u3.nw a o k1 n t).trans k2⟩
    · show DpAll _ _ _ (l ++ [])
      rw [List.append_nil]
      exact dpa_mono u3.pp h6
end
/-- some of xs, in their order -/
inductive Some_ : List PyData → List PyData → Prop
  | nil : Some_ [] []
  | cons {l xs : List PyData} (b : Bool) (x : PyData) (h : Some_ l xs) : Some_ (l ++ fm b x) (xs ++ [x])
section
variable {W : Wd} {L : Lw} {ds : DS} {te tl : TE} {tt : TT} {ta : TA} {j : Nat} {B : Bool → Prop}
theorem Some_.len {l xs : List PyData} (h : Some_ l xs) : l.length ≤ xs.length := by
  induction h with
  | nil => simp
  | cons b x h ih =>
    have := fm_len b x
    rw [List.length_append, List.length_append, List.length_singleton]
    omega
theorem Some_.sub {l xs : List PyData} (h : Some_ l xs) : l.Sublist xs := by
  induction h with
  | nil => exact .slnil
  | cons b x h ih =>
    refine ih.append ?_
    cases b with
    | true => exact List.Sublist.refl _
    | false => exact List.nil_sublist _
theorem take_snoc2 {l : List PyData} {i : Nat} {x : PyData} (d : PyData → PyData) (h : l[i]? = some x) : (l.take (i + 1)).map d = (l.take i).map d ++ [d x] := by
  rw [List.take_add_one, h, List.map_append]
  rfl
/-- over a list, with a test that draws -/
theorem el_lcL {xs : List PyData} (d : PyData → PyData) (hl : ED W tl ds (pL xs)) (hz : xs.length ≤ 40000)
    (ht : ∀ x ∈ xs, TL W L tt ((ds.set j none).set j (some (.py x))) B) (he : ∀ x ∈ xs, ED W te ((ds.set j none).set j (some (.py x))) (.py (d x))) :
    EL W L (tLc (iList W.K tl) (gName j) tt te [j]) ds (fun z => ∃ l, z = pL l ∧ Some_ l (xs.map d)) := fun σ P H lh env Q q =>
  hl σ P H lh.ph env _ fun v P1 H1 s1 r1 => by
    have lh1 := lh.step s1
    cases r1 with
    | @lst a ys _ hs ha =>
      have hn := DpAll.len ha
      refine ⟨a, rfl, ⟨ys, ex_l s1.ph hs⟩, fun Dd hD => ?_⟩
      refine lc_list (xs := ys) (fun i H' => ∃ l, Some_ l ((xs.take i).map d) ∧ LcM W L P1 H1 Dd l H') ⟨[], .nil, LcM.start lh1 hD⟩ (fun i H' _ p => ?_) (fun i y H' hi' p => ?_) (fun H' p => ?_)
      · obtain ⟨l, _, p⟩ := p
        obtain ⟨Pi, acc, h1, h2, _⟩ := p.ex
        exact ex_l h1.ph (ex_l h2 hs)
      · obtain ⟨l, hl', p⟩ := p
        obtain ⟨x, hx, rx⟩ := DpAll.getV ha hi'
        have hm : x ∈ xs := List.mem_of_getElem? hx
        have hlen := hl'.len
        have : (xs.take i).length ≤ xs.length := by rw [List.length_take]; omega
        rw [List.length_map] at hlen
        refine ⟨wipe1_set _ _ _, ?_⟩
        refine lc_turnM lh1 p hD (by omega) (((env.mono s1.pp).wipe j).set j (d := .py x) rx) (ht x hm) (he x hm) fun b H'' z => ⟨_, ?_, z⟩
        rw [take_snoc2 d hx]
        exact .cons b (d x) hl'
      · obtain ⟨l, hl', p⟩ := p
        obtain ⟨P', u2, r2⟩ := p.fin lh1 hD
        rw [hn, List.take_length] at hl'
        exact q _ _ P' H' ⟨l, rfl, hl'⟩ ((lh.ls s1).trans u2) r2
/-- over range(n), with a test that draws -/
theorem el_lcR1 {hi : Int} (d : Nat → PyData) (ha : EA W ta ds [pI hi]) (hb : -(2 ^ 62) ≤ hi ∧ hi < 2 ^ 62) (hz : hi.toNat ≤ 40000)
    (ht : ∀ k, k < hi.toNat → TL W L tt ((ds.set j none).set j (some (pI (k : Int)))) B) (he : ∀ k, k < hi.toNat → ED W te ((ds.set j none).set j (some (pI (k : Int)))) (.py (d k))) :
    EL W L (tLc (iRng1 ta) (gName j) tt te [j]) ds (fun z => ∃ l, z = pL l ∧ Some_ l ((List.range hi.toNat).map d)) := fun σ P H lh env Q q =>
  ha σ P H lh.ph env _ fun vs P1 H1 s1 r1 => by
    have lh1 := lh.step s1
    obtain rfl : vs = [.int hi] := by
      cases r1 with
      | cons a r => cases r; cases a; rfl
    refine ⟨hi, rfl, hb.1, hb.2, fun Dd hD => ?_⟩
    refine lc_range (lo := 0) (n := hi.toNat) (fun i H' => ∃ l, Some_ l ((List.range i).map d) ∧ LcM W L P1 H1 Dd l H') ⟨[], .nil, LcM.start lh1 hD⟩ (fun i H' hi' p => ?_) (fun H' p => ?_)
    · obtain ⟨l, hl', p⟩ := p
      have hlen := hl'.len
      rw [List.length_map, List.length_range] at hlen
      refine ⟨wipe1_set _ _ _, ?_⟩
      have e0 : (0 : Int) + (i : Int) = (i : Int) := Int.zero_add _
      rw [e0]
      refine lc_turnM lh1 p hD (by omega) (((env.mono s1.pp).wipe j).set j (d := pI _) (Dp.int _)) (ht i hi') (he i hi') fun b H'' z => ⟨_, ?_, z⟩
      rw [List.range_succ, List.map_append]
      exact .cons b (d i) hl'
    · obtain ⟨l, hl', p⟩ := p
      obtain ⟨P', u2, r2⟩ := p.fin lh1 hD
      exact q _ _ P' H' ⟨l, rfl, hl'⟩ ((lh.ls s1).trans u2) r2
end
end Dl

set_option Elab.async false
set_option linter.all false
set_option maxRecDepth 100000
set_option maxHeartbeats 4000000
namespace Dl
open PySem L2 PySem.Spec PyProof.Rows
open Evl (Ex fresh_back sz_of sz_lt ex_l ex_t sq_of st_of)
section
variable {P : Program} {w : World} {W : Wd} {L : Lw} {mg : Str → Option Value} {base : Heap}
/-- a def of the law that draws, by its body -/
theorem okL {x qual : Str} {st : Stmt} {f : Addr} {fd : FuncData} {N ps : List Str} {k : Nat} {RL : List D → (D → Prop) → Prop} (Fn : Fun W.K x qual st f fd) (S : FnScope N ps (defScope st)) (len : ∀ l o, RL l o → l.length = ps.length)
    (hb : ∀ (cdv : Value) (A : Around) (outer : List Env) (s : Shared) (H : Hp) (E : XK), Room k (A.deeper (envOfC qual (defScope st) s.heap.objs.size f cdv)) → ∀ l o, RL l o →
      ∃ t, PSs (cxOf (L2.CX P w) P w W.K mg base N qual (defScope st) f cdv A outer s H E) (defBody st) t ∧ SL W L t (startD N l) (fun _ => False) o) : FnOk P w W.K mg base (L2.CX P w) (k + 1) f fd ps (spL W L RL) := by
  refine Fn.okX S (fun vs H Q E h => ?_) (fun cdv A outer s H vs Q E hr h => ?_)
  · obtain ⟨P0, l, d, e, r, hF, _⟩ := h
    rw [Paired.length r]
    exact len l d hF
  · obtain ⟨P0, l, o, lh, r, hF, q⟩ := h
    obtain ⟨t, ht, hs⟩ := hb cdv A outer s H E hr l o hF
    exact ⟨t, ht, hs _ P0 H _ lh (EnvD.start r) (fun _ _ _ _ z => z.elim) q⟩
end
/-- such a def, called by its name -/
structure CL (P : Program) (w : World) (W : Wd) (L : Lw) (mg : Str → Option Value) (base : Heap) (x : Str) (k : Nat) (ps : List Str) (RL : List D → (D → Prop) → Prop) : Prop where
  ex : ∃ f fd, FnOk P w W.K mg base (L2.CX P w) k f fd ps (spL W L RL) ∧ mg x = some (.ref f) ∧ PySem.W.keepIn W.K (.ref f) = true ∧ Binds W.K fd ps []
theorem pe_cl {X : Cx} {W : Wd} {L : Lw} {x : Str} {k : Nat} {ps : List Str} {RL : List D → (D → Prop) → Prop} {p pos : Pos} {e : Expr} {es : List Expr} {t : TA} (C : CL X.prog X.w W L X.mg X.base x k ps RL) (hr : Room k X.A) (ha : PA X (e :: es) t) (hK : X.K = W.K := by rfl) (hg : Gl X x := by rfl)
    (hdb : (x == ("__debug__" : Str)) = false := by decide) (he : starEach (e :: es) X.env = (false, eval e X.env) :: starEach es X.env := by rfl) (hpl : (backTo pos (starEach es X.env)).any (·.1) = false := by rfl) :
    PE X (.Call (.Name x p) (e :: es) [] pos) (tCall (spL W L RL) [] E0 t) := by
  obtain ⟨f, fd, F1, h1, h2, h3⟩ := C.ex
  rw [← hK] at F1 h2 h3
  exact pe_call F1 hr hg h1 h2 h3 .nil passL ha hdb he hpl
/-- a pure def of the law -/
theorem pe_cx0 {X : Cx} {W : Wd} {x : Str} {k : Nat} {ps : List Str} {R : List D → Res → Prop} {p pos : Pos} {e : Expr} {es : List Expr} {t : TA} (C : CX1 X.prog X.w W X.mg X.base x k ps R) (hr : Room k X.A) (ha : PA X (e :: es) t) (hK : X.K = W.K := by rfl) (hg : Gl X x := by rfl)
    (hdb : (x == ("__debug__" : Str)) = false := by decide) (he : starEach (e :: es) X.env = (false, eval e X.env) :: starEach es X.env := by rfl) (hpl : (backTo pos (starEach es X.env)).any (·.1) = false := by rfl) :
    PE X (.Call (.Name x p) (e :: es) [] pos) (tCall (spR W R) [] E0 t) := pe_cx C hr passL ha hK hg hdb he hpl
end Dl
namespace Dl
open PySem L2 PySem.Spec PyProof.Rows
open Evl (Ex fresh_back sz_of sz_lt ex_l ex_t sq_of st_of)
theorem rela_py {W : Wd} {P : Hp} : ∀ {l : List PyData} {vs : List V}, RelA W P vs (l.map D.py) → DpAll W.K P vs l
  | [], _, h => by cases h; exact .nil
  | a :: l, _, h => by
    cases h with
    | cons h t => exact .cons h (rela_py t)
section
variable {W : Wd} {L : Lw} {te : TE} {tr : TA} {ds : DS} {S : D → Prop} {SA : List D → Prop} {C : List PyData → Prop}
theorem el_tup (h : AL W L tr ds SA) (hs : ∀ l, SA l → ∃ xs : List PyData, l = xs.map D.py ∧ xs.length ≤ 100000 ∧ S (pT xs)) : EL W L (tTup tr) ds S := fun σ P H lh env Q q =>
  h σ P H lh env _ fun l vs P1 H1 sl u1 r1 => by
    obtain ⟨xs, rfl, hl, hS⟩ := hs l sl
    have hn : vs.length = xs.length := by rw [Paired.length r1, List.length_map]
    refine ⟨by rw [hn]; exact sz_dp (by omega), fun p hp => ?_⟩
    have st := Step.new (o := .tup vs) u1.lh.ph hp
    exact q _ _ _ _ hS (u1.trans (u1.lh.ls st)) (Dp.tup (st_of upd_same) (dpa_mono st.pp (rela_py r1)))
theorem el_lst (h : AL W L tr ds SA) (hs : ∀ l, SA l → ∃ xs : List PyData, l = xs.map D.py ∧ xs.length ≤ 100000 ∧ S (pL xs)) : EL W L (tLst tr) ds S := fun σ P H lh env Q q =>
  h σ P H lh env _ fun l vs P1 H1 sl u1 r1 => by
    obtain ⟨xs, rfl, hl, hS⟩ := hs l sl
    have hn : vs.length = xs.length := by rw [Paired.length r1, List.length_map]
    refine ⟨by rw [hn]; exact sz_dp (by omega), fun p hp => ?_⟩
    have st := Step.new (o := .lst vs) u1.lh.ph hp
    exact q _ _ _ _ hS (u1.trans (u1.lh.ls st)) (Dp.lst (sq_of upd_same) (dpa_mono st.pp (rela_py r1)))
/-- xs[:hi] -/
theorem el_cutL {hi : Int} (h : EL W L te ds (fun z => ∃ l, z = pL l ∧ C l)) : EL W L (tSl (rSlL W.K) te tNoPart (tPart (tC (.int hi)))) ds (fun z => ∃ l, z = pL (Dl.cutD l none (some hi)) ∧ C l) := fun σ P H lh env Q q =>
  h σ P H lh env _ fun d v P1 H1 sd u1 r1 => by
    obtain ⟨l, rfl, hC⟩ := sd
    cases r1 with
    | @lst p ys _ hs ha =>
      refine ⟨hi, rfl, p, ys, rfl, ex_l u1.lh.ph hs, fun a hn => ?_⟩
      have st := Step.new (o := .lst (cutV ys none (some hi))) u1.lh.ph hn
      exact q _ _ _ _ ⟨l, rfl, hC⟩ (u1.trans (u1.lh.ls st)) (Dp.lst (sq_of upd_same) (dpa_mono st.pp (DpAll.cut ha none (some hi))))
/-- the same of a tuple -/
theorem el_cutT {hi : Int} (h : EL W L te ds (fun z => ∃ l, z = pT l ∧ C l)) : EL W L (tSl (rSlA W.K) te tNoPart (tPart (tC (.int hi)))) ds (fun z => ∃ l, z = pT (Dl.cutD l none (some hi)) ∧ C l) := fun σ P H lh env Q q =>
  h σ P H lh env _ fun d v P1 H1 sd u1 r1 => by
    obtain ⟨l, rfl, hC⟩ := sd
    refine ⟨hi, rfl, ?_⟩
    cases r1 with
    | @tup p ys _ hs ha =>
      have hl := DpAll.len ha
      refine ⟨p, ys, rfl, ex_t u1.lh.ph hs, fun hw => ?_, fun _ a hn => ?_⟩
      · rw [hl] at hw
        have e : Dl.cutD l none (some hi) = l := by
          unfold Dl.cutD
          rw [hw.1, hw.2, List.drop_zero, Nat.sub_zero, List.take_length]
        exact q _ _ _ _ ⟨l, rfl, hC⟩ u1 (by rw [e]; exact Dp.tup hs ha)
      · have st := Step.new (o := .tup (cutV ys none (some hi))) u1.lh.ph hn
        exact q _ _ _ _ ⟨l, rfl, hC⟩ (u1.trans (u1.lh.ls st)) (Dp.tup (st_of upd_same) (dpa_mono st.pp (DpAll.cut ha none (some hi))))
theorem cut_take {l : List PyData} {k : Nat} : Dl.cutD l none (some (k : Int)) = l.take k := by
  unfold Dl.cutD
  rw [HT.sIx_none, List.drop_zero, Nat.sub_zero, HT.sIx_nat]
  by_cases h : k ≤ l.length
  · rw [Nat.min_eq_left h]
  · rw [Nat.min_eq_right (by omega), List.take_length, List.take_of_length_le (by omega)]
theorem cut_drop {l : List PyData} {k : Nat} : Dl.cutD l (some (k : Int)) none = l.drop k := by
  unfold Dl.cutD
  rw [HT.sIx_none, HT.sIx_nat]
  by_cases h : k ≤ l.length
  · rw [Nat.min_eq_left h]
    exact List.take_of_length_le (by rw [List.length_drop]; omega)
  · rw [Nat.min_eq_right (by omega), List.drop_length, List.drop_eq_nil_of_le (by omega)]
    simp
end
end Dl
namespace Dl
open PySem L2 PySem.Spec PyProof.Rows
open Evl (Ex fresh_back sz_of sz_lt ex_l ex_t sq_of st_of)
section
variable {W : Wd} {L : Lw} {P1 H1 : Hp} {Dd : Addr}
/-- a turn without a test, the item made by a call that may touch the tables -/
theorem lc_turnE {l : List PyData} {H' : Hp} {σ2 : L2.St} {ds2 : DS} {te : TE} {d : PyData} (lh : LH W L P1 H1) (h : LcM W L P1 H1 Dd l H') (hn : H1 Dd = none) (hz : l.length < 100000)
    (env : EnvD W ds2 σ2 P1) (he : EL W L te ds2 (· = .py d)) {Nx : Hp → Prop} (hN : ∀ H'', LcM W L P1 H1 Dd (l ++ [d]) H'' → Nx H'') :
    te σ2 H' fun y H4 => ∃ acc, H4 Dd = some (.lst acc) ∧ acc.length < sizeLine ∧ Nx (upd H4 Dd (.lst (acc ++ [y]))) := by
  obtain ⟨Pi, acc, h1, h2, h3, h4, h5, h6⟩ := h.ex
  have hq := LcM.q (l := l) (H' := H') lh hn
  have nt : ∀ ps, HO.lst acc ≠ .tbl ps := fun ps z => by cases z
  refine he σ2 Pi H' h1 (env.mono h2) _ fun d' y P4 H4 hd u r4 => ?_
  subst hd
  have e5 : P4 Dd = none := by rw [u.nw Dd _ h5 hq nt]; exact h4
  have hD := u.st Dd _ h5 hq nt
  refine ⟨acc, hD, by rw [DpAll.len h6]; exact sz_lt hz, hN _ ⟨P4, acc ++ [y], ?_, h2.trans u.pp, fun a o q n t => ?_, e5, upd_same, DpAll.app (dpa_mono u.pp h6) (.cons r4 .nil)⟩⟩
  · obtain ⟨n, hqn⟩ := u.lh.dr
    have keep : ∀ a o, H4 a = some o → a ≠ Dd → upd H4 Dd (.lst (acc ++ [y])) a = some o := fun a o q hne => by rw [upd_ne hne]; exact q
    refine ⟨fun a o q => keep a o (u.lh.ph a o q) (ne_of_none q e5), ⟨n, keep _ _ hqn (Ne.symm hq)⟩, u.lh.dq, fun p hp => ?_, u.lh.tn, u.lh.tq, u.lh.sc, u.lh.nt⟩
    obtain ⟨ps, e1, e2, e3⟩ := u.lh.tb p hp
    refine ⟨ps, keep _ _ e1 (fun z => ?_), e2, fun pos cv hc => ?_⟩
    · rw [z, hD] at e1; cases e1
    · obtain ⟨c, f1, f2⟩ := e3 pos cv hc
      refine ⟨c, f1, keep _ _ f2 fun z => ?_⟩
      rw [z, hD] at f2
      cases f2
  · obtain ⟨k1, k2⟩ := h3 a o q n t
    exact ⟨by rw [upd_ne (ne_of_none q hn)]; exact u.st a o k1 n t, (u.nw a o k1 n t).trans k2⟩
end
section
variable {W : Wd} {L : Lw} {ds : DS} {te tl : TE} {j : Nat} {tr : TA} {SA : List D → Prop}
/-- over a list, each item made by such a call -/
theorem el_lcE {xs : List PyData} (d : PyData → PyData) (hl : ED W tl ds (pL xs)) (hz : xs.length ≤ 40000) (he : ∀ x ∈ xs, EL W L te ((ds.set j none).set j (some (.py x))) (· = .py (d x))) :
    EL W L (tLc (iList W.K tl) (gName j) tYes te [j]) ds (· = pL (xs.map d)) := fun σ P H lh env Q q =>
  hl σ P H lh.ph env _ fun v P1 H1 s1 r1 => by
    have lh1 := lh.step s1
    cases r1 with
    | @lst a ys _ hs ha =>
      have hn := DpAll.len ha
      refine ⟨a, rfl, ⟨ys, ex_l s1.ph hs⟩, fun Dd hD => ?_⟩
      refine lc_list (xs := ys) (fun i H' => LcM W L P1 H1 Dd ((xs.take i).map d) H') (by rw [List.take_zero]; exact LcM.start lh1 hD) (fun i H' _ p => ?_) (fun i y H' hi' p => ?_) (fun H' p => ?_)
      · obtain ⟨Pi, acc, h1, h2, _⟩ := p.ex
        exact ex_l h1.ph (ex_l h2 hs)
      · obtain ⟨x, hx, rx⟩ := DpAll.getV ha hi'
        have hm : x ∈ xs := List.mem_of_getElem? hx
        have : (xs.take i).length ≤ xs.length := by rw [List.length_take]; omega
        refine ⟨wipe1_set _ _ _, ?_⟩
        show te _ _ _
        refine lc_turnE lh1 p hD (by rw [List.length_map]; omega) (((env.mono s1.pp).wipe j).set j (d := .py x) rx) (he x hm) fun H'' z => ?_
        rw [take_snoc2 d hx]
        exact z
      · obtain ⟨P', u2, r2⟩ := p.fin lh1 hD
        rw [hn, List.take_length] at r2
        exact q _ _ P' H' rfl ((lh.ls s1).trans u2) r2
theorem rd_rep {xs : List PyData} {k : Int} (h0 : xs ≠ []) (h1 : xs.length ≤ 1000) (h2 : 2 ≤ k) (h3 : k ≤ 1000) : RD2 W (rRepT W.K) (pT xs) (pI k) (pT (List.replicate k.toNat xs).flatten) := fun P H v w e r1 r2 Q q => by
  cases r2
  cases r1 with
  | @tup a us _ hs ha =>
    have l1 := DpAll.len ha
    refine ⟨a, k, us, rfl, rfl, ex_t e hs, fun z => ?_, h2, h3, by omega, fun p hn => ?_⟩
    · subst z
      exact h0 (List.length_eq_zero_iff.mp l1.symm)
    · have st := Step.new (o := .tup (List.replicate k.toNat us).flatten) e hn
      refine q _ _ _ st (Dp.tup (st_of upd_same) (dpa_mono st.pp ?_))
      generalize k.toNat = m
      induction m with
      | zero => exact .nil
      | succ m ih =>
        rw [List.replicate_succ, List.replicate_succ, List.flatten_cons, List.flatten_cons]
        exact DpAll.app ha ih
end
section
variable {P : Program} {w : World} {W : Wd} {L : Lw} {mg : Str → Option Value} {base : Heap}
/-- a def whose code object stands at c -/
structure FunC (K : PySem.W.Frag) (x qual : Str) (st : Stmt) (f : Addr) (fd : FuncData) (c : Addr) : Prop where
  ex : ∃ (oc : Value) (od : Option Addr) (kV doc pm : Value) (an : Option Addr) (ct : Value) (osl : Array (Option Value)),
    fd = PySem.W.fnOf x qual (defArgs st) (defBody st) (defScope st) .none kV doc pm an (.ref c) ct ∧ K.lookup f = some ⟨oc, od, .func fd, osl⟩ ∧ PySem.W.codeIn K (.ref c) qual = true
  kp : PySem.W.keepIn K (.ref f) = true
theorem FunC.fn {K : PySem.W.Frag} {x qual : Str} {st : Stmt} {f : Addr} {fd : FuncData} {c : Addr} (F : FunC K x qual st f fd c) : Fun K x qual st f fd := by
  obtain ⟨oc, od, kV, doc, pm, an, ct, osl, e, lk, hcd⟩ := F.ex
  exact ⟨⟨oc, od, kV, doc, pm, an, .ref c, ct, osl, e, lk, hcd⟩, F.kp⟩
/-- a def of the law that makes lambdas, by its body -/
theorem okLC {x qual : Str} {st : Stmt} {f c : Addr} {fd : FuncData} {N ps : List Str} {k : Nat} {RL : List D → (D → Prop) → Prop} (Fn : FunC W.K x qual st f fd c) (S : FnScope N ps (defScope st)) (len : ∀ l o, RL l o → l.length = ps.length)
    (hb : ∀ (A : Around) (outer : List Env) (s : Shared) (H : Hp) (E : XK), Room k (A.deeper (envOfC qual (defScope st) s.heap.objs.size f (.ref c))) → ∀ l o, RL l o →
      ∃ t, PSs (cxOf (L2.CX P w) P w W.K mg base N qual (defScope st) f (.ref c) A outer s H E) (defBody st) t ∧ SL W L t (startD N l) (fun _ => False) o) : FnOk P w W.K mg base (L2.CX P w) (k + 1) f fd ps (spL W L RL) := by
  obtain ⟨oc, od, kV, doc, pm, an, ct, osl, rfl, lk, hcd⟩ := Fn.ex
  refine fn_of lk hcd S (fun vs H Q E h => ?_) (fun A outer s H vs Q E hr h => ?_)
  · obtain ⟨P0, l, d, e, r, hF, _⟩ := h
    rw [Paired.length r]
    exact len l d hF
  · obtain ⟨P0, l, o, lh, r, hF, q⟩ := h
    obtain ⟨t, ht, hs⟩ := hb A outer s H E hr l o hF
    exact ⟨t, ht, hs _ P0 H _ lh (EnvD.start r) (fun _ _ _ _ z => z.elim) q⟩
end
end Dl

set_option Elab.async false
set_option linter.all false
set_option maxRecDepth 100000
set_option maxHeartbeats 1000000
namespace Dl
open PySem L2 PySem.Spec PyProof.Rows
open Evl (Ex fresh_back sz_of sz_lt ex_l ex_t sq_of st_of)
section
variable {W : Wd} {L : Lw} {tb : TS} {tr : TA} {ds : DS} {R : D → Prop} {j1 j2 : Nat}
/-- for i, x in enumerate(xs) -/
theorem sl_forE {xs : List PyData} (I : Nat → DS → Prop) (h : EA W tr ds [pL xs]) (h0 : I 0 ds) (hs : ∀ k ds' x, xs[k]? = some x → I k ds' → SL W L tb ((ds'.set j1 (some (pI (k : Int)))).set j2 (some (.py x))) (I (k + 1)) R) :
    SL W L (tFor (iEnum W.K tr) (gTup W.K 2 (gCons (gName j1) (gCons (gName j2) gNil))) tb) ds (I xs.length) R := fun σ P H E lh env k r =>
  h σ P H lh.ph env _ fun vs P1 H1 s1 r1 => by
    obtain ⟨v0, rfl, rr⟩ : ∃ v0, vs = [v0] ∧ RelD W P1 v0 (pL xs) := by
      cases r1 with
      | cons a r => cases r; exact ⟨_, rfl, a⟩
    clear r1
    cases rr with
    | @lst a us _ ha hd =>
      have hl := DpAll.len hd
      have atH : ∀ {P' H' : Hp}, Ex P1 P' → Ex P' H' → SqL W.K H' a us := fun e1 e2 => ex_l e2 (ex_l e1 ha)
      refine ⟨a, us, rfl, atH (Ex.refl _) s1.ph, fun i m σ' H' => m = xs.length - i ∧ i ≤ xs.length ∧ ∃ ds' P', I i ds' ∧ LS W L P H P' H' ∧ Ex P1 P' ∧ EnvD W ds' σ' P', ⟨xs.length, by omega, by omega, ds, P1, h0, lh.ls s1, Ex.refl _, env.mono s1.pp⟩, ?_⟩
      rintro i m σ' H' ⟨hm, hi', ds', P', hI, u', e1', env'⟩
      have sq := atH e1' u'.lh.ph
      by_cases hlt : i < xs.length
      · have hx := List.getElem?_eq_getElem hlt
        obtain ⟨v, hv, rv⟩ := DpAll.get hd hx
        refine Or.inr ⟨⟨us, v, sq, hv⟩, fun σ'' H'' => ∃ m', m' < m ∧ (m' = xs.length - (i + 1) ∧ i + 1 ≤ xs.length ∧ ∃ ds' P', I (i + 1) ds' ∧ LS W L P H P' H'' ∧ Ex P1 P' ∧ EnvD W ds' σ'' P'), fun _ _ z => z, ?_⟩
        rintro y H'' ⟨Tt, x, rfl, hT, rfl, hx2⟩
        have ev := hx2 us sq
        rw [hv] at ev
        cases ev
        have st := Step.new (o := .tup [.int (i : Nat), v]) u'.lh.ph hT
        have u2 := u'.trans (u'.lh.ls st)
        refine ⟨Tt, _, rfl, st_of upd_same, rfl, _, _, rfl, _, _, rfl, rfl, ?_⟩
        refine hs i ds' _ hx hI _ _ _ _ u2.lh (((env'.mono st.pp).set j1 (d := pI _) (Dp.int _)).set j2 (d := .py _) (dp_mono (e1'.trans st.pp) rv)) (fun ds2 σ2 P2 H2 n2 u3 env2 => ?_) fun d v P2 H2 rd u3 r2 => r d v P2 H2 rd (u2.trans u3) r2
        exact ⟨xs.length - (i + 1), by omega, rfl, by omega, ds2, P2, n2, u2.trans u3, (e1'.trans st.pp).trans u3.pp, env2⟩
      · have : i = xs.length := by omega
        subst this
        exact Or.inl ⟨⟨us, sq, by omega⟩, k ds' σ' P' H' hI u' env'⟩
end
end Dl

set_option Elab.async false
set_option linter.all false
set_option maxRecDepth 100000
set_option maxHeartbeats 1000000
/-! the law's own body: the list of draws is made in it, so the promises of its helpers speak of any such list -/
namespace Dl
open PySem L2 PySem.Spec PyProof.Rows
open Evl (Ex fresh_back sz_of sz_lt ex_l ex_t sq_of st_of)
/-- the laws' lists that come into question: these tables, a short script -/
def Fam (T : List (Addr × Str)) (L : Lw) : Prop := L.T = T ∧ L.ns.length ≤ 1000
def spE (W : Wd) (T : List (Addr × Str)) (RL : Lw → List D → (D → Prop) → Prop) : Sp := fun vs H Q E => ∃ L, Fam T L ∧ spL W L (RL L) vs H Q E
structure CLE (P : Program) (w : World) (W : Wd) (T : List (Addr × Str)) (mg : Str → Option Value) (base : Heap) (x : Str) (k : Nat) (ps : List Str) (RL : Lw → List D → (D → Prop) → Prop) : Prop where
  ex : ∃ f fd, (∀ L, Fam T L → FnOk P w W.K mg base (L2.CX P w) k f fd ps (spL W L (RL L))) ∧ mg x = some (.ref f) ∧ PySem.W.keepIn W.K (.ref f) = true ∧ Binds W.K fd ps []
theorem CLE.at {P : Program} {w : World} {W : Wd} {T : List (Addr × Str)} {mg : Str → Option Value} {base : Heap} {x : Str} {k : Nat} {ps : List Str} {RL : Lw → List D → (D → Prop) → Prop} (C : CLE P w W T mg base x k ps RL) {L : Lw} (h : Fam T L) : CL P w W L mg base x k ps (RL L) := by
  obtain ⟨f, fd, F, h1, h2, h3⟩ := C.ex
  exact ⟨f, fd, F L h, h1, h2, h3⟩
theorem pe_cle {X : Cx} {W : Wd} {T : List (Addr × Str)} {x : Str} {k : Nat} {ps : List Str} {RL : Lw → List D → (D → Prop) → Prop} {p pos : Pos} {e : Expr} {es : List Expr} {t : TA} (C : CLE X.prog X.w W T X.mg X.base x k ps RL) (hr : Room k X.A) (ha : PA X (e :: es) t) (hK : X.K = W.K := by rfl) (hg : Gl X x := by rfl)
    (hdb : (x == ("__debug__" : Str)) = false := by decide) (he : starEach (e :: es) X.env = (false, eval e X.env) :: starEach es X.env := by rfl) (hpl : (backTo pos (starEach es X.env)).any (·.1) = false := by rfl) :
    PE X (.Call (.Name x p) (e :: es) [] pos) (tCall (spE W T RL) [] E0 t) := by
  obtain ⟨f, fd, F1, h1, h2, h3⟩ := C.ex
  rw [← hK] at F1 h2 h3
  have F2 : FnOk X.prog X.w X.K X.mg X.base (L2.CX X.prog X.w) k f fd ps (spE W T RL) :=
    ⟨fun vs H Q E ⟨L, hL, h⟩ => (F1 L hL).len vs H Q E h, fun A outer s H args us vs Q E hr e0 hb hv ⟨L, hL, h⟩ => (F1 L hL).run A outer s H args us vs Q E hr e0 hb hv h⟩
  exact pe_call F2 hr hg h1 h2 h3 .nil passL ha hdb he hpl
section
variable {W : Wd} {L : Lw} {T : List (Addr × Str)} {ds : DS} {S : D → Prop} {SA : List D → Prop} {ta : TA}
theorem el_callE {RL : Lw → List D → (D → Prop) → Prop} {E : XK} (hL : Fam T L) (ha : AL W L ta ds SA) (hR : ∀ l, SA l → RL L l S) : EL W L (tCall (spE W T RL) [] E ta) ds S := fun σ P H lh env Q q =>
  ha σ P H lh env _ fun l vs P1 H1 sl u1 r1 => ⟨L, hL, P1, l, S, u1.lh, by rw [List.append_nil]; exact r1, hR l sl, fun d v P2 H2 sd u2 r2 => q d v P2 H2 sd (u1.trans u2) r2⟩
end
end Dl

set_option Elab.async false
set_option linter.all false
set_option maxRecDepth 100000
set_option maxHeartbeats 4000000
namespace K01
open PySem L2 Dl PySem.Spec PyProof.Rows
def top (i : Nat) : Stmt := PySem.Challenge.pw_hearsayways_k01_whole_nets.main.body.getD i (.Pass ⟨0, 0, 0, 0⟩)
/-- built-ins that the text does not hide -/
structure Blt (mg : Str → Option Value) : Prop where
  isi : mg "isinstance" = none
  int : mg "int" = none
  bool : mg "bool" = none
  str : mg "str" = none
  tuple : mg "tuple" = none
  list : mg "list" = none
  len : mg "len" = none
  all : mg "all" = none
  range : mg "range" = none
  sum : mg "sum" = none
  enum : mg "enumerate" = none
abbrev s5 : Stmt := top 5
abbrev s6 : Stmt := top 6
def isInt : PyData → Bool
  | .int _ => true
  | _ => false
def F5 : List D → Option D
  | [.py a] => some (pB (isInt a))
  | _ => none
section
variable {P : Program} {w : World} {W : Wd} {mg : Str → Option Value} {base : Heap}
theorem sc5 : FnScope ["thing"] ["thing"] (defScope s5) := ⟨rfl, rfl, rfl, by decide +kernel, rfl, by decide +kernel, by decide +kernel⟩
theorem ok5 {f : Addr} {fd : FuncData} (F : Fun W.K "is_integer" "is_integer" s5 f fd) (T : Blt mg) : FnOk P w W.K mg base CX0 1 f fd ["thing"] (spD W F5) := by
  refine okD F sc5 (fun l d h => ?_) (fun cdv A outer s H E hr l d h => ?_)
  · match l, h with | [.py a], _ => rfl
  · match l, h with
    | [.py a], h =>
      cases h
      refine ⟨_, pss_one (ps_ret (pe_and (pe_callB call_isi (by rfl) T.isi (by decide +kernel) (pa_cons (pv 0) (pa_cons (pe_bltn (v := .ty "int") (by rfl) T.int (by decide +kernel) rfl) pa_nil)))
        (pe_one (pe_not (pe_callB call_isi (by rfl) T.isi (by decide +kernel) (pa_cons (pv 0) (pa_cons (pe_bltn (v := .ty "bool") (by rfl) T.bool (by decide +kernel) rfl) pa_nil))))))), ?_⟩
      exact sd_ret ((ed_andV (ed_cb (ea_cons (ed_var rfl) (ea_cons ed_ty ea_nil)) (rda_isi (kit_int a))) (fun _ => ed_notV (ed_cb (ea_cons (ed_var rfl) (ea_cons ed_ty ea_nil)) (rda_isi (kit_bool a))))).cast (by cases a <;> rfl))
def within : PyData → Int → Int → Bool
  | .int i, l, m => decide (l ≤ i) && decide (i ≤ m)
  | _, _, _ => false
def F6 : List D → Option D
  | [.py a, .py (.int l), .py (.int m)] => some (pB (within a l m))
  | _ => none
theorem sc6 : FnScope ["thing", "least", "most"] ["thing", "least", "most"] (defScope s6) := ⟨rfl, rfl, rfl, by decide +kernel, rfl, by decide +kernel, by decide +kernel⟩
theorem ok6 {f : Addr} {fd : FuncData} (F : Fun W.K "is_within" "is_within" s6 f fd) (C5 : CD P w W mg base "is_integer" 1 ["thing"] F5) : FnOk P w W.K mg base CX0 2 f fd ["thing", "least", "most"] (spD W F6) := by
  refine okD F sc6 (fun l d h => ?_) (fun cdv A outer s H E hr l d h => ?_)
  · match l, h with | [.py a, .py (.int l), .py (.int m)], _ => rfl
  · match l, h with
    | [.py a, .py (.int l), .py (.int m)], h =>
      cases h
      refine ⟨_, pss_one (ps_ret (pe_and (pe_cd C5 hr (pa_cons (pv 0) pa_nil)) (pe_one (pe_chain op_le op_le (pv 1) (pv 0) (pv 2))))), ?_⟩
      refine sd_ret ((ed_andV (b := within a l m) (ed_call (ea_cons (ed_var rfl) ea_nil) rfl) (fun hi => ?_)).cast (by cases a <;> rfl))
      cases a with
      | int i => exact ed_chain (ed_var rfl) (ed_var rfl) rd_IB (fun _ => ed_var rfl) (fun hk => rd_IB.cast3 (by simp [within, hk])) (fun hk => by simp [within, hk])
      | _ => cases hi
end
end K01
namespace K01
open PySem L2 Dl PySem.Spec PyProof.Rows
abbrev s7 : Stmt := top 7
abbrev s8 : Stmt := top 8
/-- the texts of a list of texts -/
def strsOf : List PyData → Option (List Str)
  | [] => some []
  | .str s :: r => (strsOf r).map (s :: ·)
  | _ :: _ => none
theorem strsOf_eq : ∀ {l : List PyData} {ws : List Str}, strsOf l = some ws → l = ws.map PyData.str
  | [], ws, h => by cases h; rfl
  | .str s :: r, ws, h => by
    unfold strsOf at h
    cases e : strsOf r with
    | none => rw [e] at h; cases h
    | some w =>
      rw [e] at h
      cases h
      rw [List.map_cons, ← strsOf_eq e]
  | .none :: _, _, h => by cases h
  | .bool _ :: _, _, h => by cases h
  | .int _ :: _, _, h => by cases h
  | .list _ :: _, _, h => by cases h
  | .tuple _ :: _, _, h => by cases h
  | .dict _ :: _, _, h => by cases h
def intsOf : List PyData → Option (List Int)
  | [] => some []
  | .int s :: r => (intsOf r).map (s :: ·)
  | _ :: _ => none
theorem intsOf_eq : ∀ {l : List PyData} {ws : List Int}, intsOf l = some ws → l = ws.map PyData.int
  | [], ws, h => by cases h; rfl
  | .int s :: r, ws, h => by
    unfold intsOf at h
    cases e : intsOf r with
    | none => rw [e] at h; cases h
    | some w =>
      rw [e] at h
      cases h
      rw [List.map_cons, ← intsOf_eq e]
  | .none :: _, _, h => by cases h
  | .bool _ :: _, _, h => by cases h
  | .str _ :: _, _, h => by cases h
  | .list _ :: _, _, h => by cases h
  | .tuple _ :: _, _, h => by cases h
  | .dict _ :: _, _, h => by cases h
def wordIn : PyData → List Str → Bool
  | .str s, ws => ws.any (· == s)
  | _, _ => false
def F7 : List D → Option D
  | [.py a, .py (.tuple l)] => (strsOf l).map fun ws => pB (wordIn a ws)
  | _ => none
def grp : PyData → Int → Bool
  | .tuple l, n => (l.length : Int) == n
  | _, _ => false
def F8 : List D → Option D
  | [.py a, .py (.int n)] => some (pB (grp a n))
  | _ => none
section
variable {P : Program} {w : World} {W : Wd} {mg : Str → Option Value} {base : Heap}
theorem sc7 : FnScope ["thing", "words"] ["thing", "words"] (defScope s7) := ⟨rfl, rfl, rfl, by decide +kernel, rfl, by decide +kernel, by decide +kernel⟩
theorem ok7 {f : Addr} {fd : FuncData} (F : Fun W.K "is_word" "is_word" s7 f fd) (T : Blt mg) : FnOk P w W.K mg base CX0 1 f fd ["thing", "words"] (spD W F7) := by
  refine okD F sc7 (fun l d h => ?_) (fun cdv A outer s H E hr l d h => ?_)
  · match l, h with | [.py a, .py (.tuple l)], _ => rfl
  · match l, h with
    | [.py a, .py (.tuple l)], h =>
      have h : (strsOf l).map (fun ws => pB (wordIn a ws)) = some d := h
      cases e : strsOf l with
      | none => rw [e] at h; cases h
      | some ws =>
        rw [e] at h
        cases h
        have el := strsOf_eq e
        subst el
        refine ⟨_, pss_one (ps_ret (pe_and (pe_callB call_isi (by rfl) T.isi (by decide +kernel) (pa_cons (pv 0) (pa_cons (pe_bltn (v := .ty "str") (by rfl) T.str (by decide +kernel) rfl) pa_nil)))
          (pe_one (pe_cmpR op_in_seq (pv 0) (pv 1) (by rfl))))), ?_⟩
        refine sd_ret ((ed_andV (b := wordIn a ws) (ed_cb (ea_cons (ed_var rfl) (ea_cons ed_ty ea_nil)) (rda_isi (kit_str a))) (fun hi => ?_)).cast (by cases a <;> rfl))
        cases a with
        | str x => exact ed_op (ed_var rfl) (ed_var rfl) rd_inS
        | _ => cases hi
theorem sc8 : FnScope ["thing", "size"] ["thing", "size"] (defScope s8) := ⟨rfl, rfl, rfl, by decide +kernel, rfl, by decide +kernel, by decide +kernel⟩
theorem ok8 {f : Addr} {fd : FuncData} (F : Fun W.K "is_group" "is_group" s8 f fd) (T : Blt mg) : FnOk P w W.K mg base CX0 1 f fd ["thing", "size"] (spD W F8) := by
  refine okD F sc8 (fun l d h => ?_) (fun cdv A outer s H E hr l d h => ?_)
  · match l, h with | [.py a, .py (.int n)], _ => rfl
  · match l, h with
    | [.py a, .py (.int n)], h =>
      cases h
      refine ⟨_, pss_one (ps_ret (pe_and (pe_callB call_isi (by rfl) T.isi (by decide +kernel) (pa_cons (pv 0) (pa_cons (pe_bltn (v := .ty "tuple") (by rfl) T.tuple (by decide +kernel) rfl) pa_nil)))
        (pe_one (pe_cmpR op_eq (pe_callB call_len_seq (by rfl) T.len PySem.boot_len (pa_cons (pv 0) pa_nil)) (pv 1) (nomark _))))), ?_⟩
      refine sd_ret ((ed_andV (b := grp a n) (ed_cb (ea_cons (ed_var rfl) (ea_cons ed_ty ea_nil)) (rda_isi (kit_tuple a))) (fun hi => ?_)).cast (by cases a <;> rfl))
      cases a with
      | tuple x => exact ed_op (ed_cb (ea_cons (ed_var rfl) ea_nil) (rda_len rfl)) (ed_var rfl) rd_eqI
      | _ => cases hi
end
end K01

set_option Elab.async false
set_option linter.all false
set_option maxRecDepth 100000
set_option maxHeartbeats 4000000
namespace K01
open PySem L2 Dl PySem.Spec PyProof.Rows
abbrev s9 : Stmt := top 9
/-! ### ascending -/
def ltP : PyData → PyData → Option Bool
  | .int i, .int j => some (decide (i < j))
  | .tuple a, .tuple b => match intsOf a, intsOf b with
    | some ns, some ms => some (HT.lexLt ns ms)
    | _, _ => none
  | _, _ => none
/-- each with the one behind it -/
def adj : List PyData → Option (List Bool)
  | a :: b :: r => match ltP a b, adj (b :: r) with
    | some x, some l => some (x :: l)
    | _, _ => none
  | _ => some []
theorem adj_get : ∀ {l : List PyData} {bs : List Bool}, adj l = some bs → bs.length = l.length - 1 ∧ ∀ k, k < l.length - 1 → ∃ a b, l[k]? = some a ∧ l[k + 1]? = some b ∧ ltP a b = some (bs.getD k false)
  | [], bs, h => by cases h; exact ⟨rfl, fun k hk => absurd hk (by simp)⟩
  | [a], bs, h => by cases h; exact ⟨rfl, fun k hk => absurd hk (by simp)⟩
  | a :: b :: r, bs, h => by
    unfold adj at h
    cases e1 : ltP a b with
    | none => rw [e1] at h; cases h
    | some x =>
      cases e2 : adj (b :: r) with
      | none => rw [e1, e2] at h; cases h
      | some l =>
        rw [e1, e2] at h
        cases h
        obtain ⟨h1, h2⟩ := adj_get e2
        refine ⟨by simp at h1 ⊢; omega, fun k hk => ?_⟩
        cases k with
        | zero => exact ⟨a, b, rfl, rfl, e1⟩
        | succ k =>
          obtain ⟨c, d, g1, g2, g3⟩ := h2 k (by simp at hk ⊢; omega)
          exact ⟨c, d, by simpa using g1, by simpa using g2, by simpa using g3⟩
theorem rd_ltP {W : Wd} {a b : PyData} {x : Bool} (h : ltP a b = some x) : RD2 W (fun x y H Q => (rI0 fun i j => .bl (decide (i < j))) x y H Q ∨ rLtT W.K x y H Q) (.py a) (.py b) (pB x) := by
  unfold ltP at h
  split at h
  · cases h
    exact RD2.left (rd_IB (f := fun i j => decide (i < j)))
  · rename_i a b
    cases e1 : intsOf a with
    | none => rw [e1] at h; cases h
    | some ns =>
      cases e2 : intsOf b with
      | none => rw [e1, e2] at h; cases h
      | some ms =>
        rw [e1, e2] at h
        cases h
        rw [intsOf_eq e1, intsOf_eq e2]
        exact RD2.right rd_ltT
  · cases h
theorem range_getD : ∀ (bs : List Bool), (List.range bs.length).map (fun k => PyData.bool (bs.getD k false)) = bs.map PyData.bool := fun bs => by
  apply List.ext_getElem
  · simp
  · intro i h1 h2
    simp at h1 h2 ⊢
    rw [List.getElem?_eq_getElem h2]
    rfl
def F9 : List D → Option D
  | [.py (.tuple l)] => if l.length ≤ 1000 then (adj l).map fun bs => pB (bs.all id) else none
  | _ => none
abbrev N9 : List Str := ["things", "at"]
section
variable {P : Program} {w : World} {W : Wd} {mg : Str → Option Value} {base : Heap}
theorem sc9 : FnScope N9 ["things"] (defScope s9) := ⟨rfl, rfl, rfl, by decide +kernel, rfl, by decide +kernel, by decide +kernel⟩
theorem ok9 {f : Addr} {fd : FuncData} (F : Fun W.K "is_rising" "is_rising" s9 f fd) (T : Blt mg) : FnOk P w W.K mg base CX0 1 f fd ["things"] (spD W F9) := by
  refine okD F sc9 (fun l d h => ?_) (fun cdv A outer s H E hr l d h => ?_)
  · match l, h with | [.py (.tuple l)], _ => rfl
  · match l, h with
    | [.py (.tuple l)], h =>
      have h : (if l.length ≤ 1000 then (adj l).map (fun bs => pB (bs.all id)) else none) = some d := h
      by_cases hz : l.length ≤ 1000
      · rw [if_pos hz] at h
        cases e : adj l with
        | none => rw [e] at h; cases h
        | some bs =>
          rw [e] at h
          cases h
          obtain ⟨hl, hg⟩ := adj_get e
          refine ⟨_, pss_one (ps_ret (pe_callB (cr_all rfl) (by rfl) T.all (by decide +kernel) (pa_cons (pe_lc (own := [("at", 1)]) (g := gName 1) (tt := tYes) rfl sc9.nd
            (pi_range2 rfl T.range (pa_cons pe_int (pa_cons (pe_callB call_len_seq (by rfl) T.len PySem.boot_len (pa_cons (pv 0) pa_nil)) pa_nil)))
            (blkOk_by (N := N9) (sc := defScope s9) (by decide +kernel)) (fun _ _ _ _ _ => pg_name (i := 1) sc9.nd rfl (Or.inl rfl)) (fun _ _ _ _ _ => pts_nil)
            (fun _ _ _ _ _ => pe_cmpR (op_lt.or (opLtT (W := W) rfl hr.units0)) (pe_ix (ixT (W := W) rfl) (pv 0) (pe_op op_sub (pv 1) pe_int) (fun _ _ => rfl)) (pe_ix (ixT (W := W) rfl) (pv 0) (pv 1) (fun _ _ => rfl)) (nomark _))) pa_nil))), ?_⟩
          refine sd_ret (ed_cb (l := [pL (bs.map PyData.bool)]) (ea_cons ?_ ea_nil) rda_all)
          by_cases h0 : l = []
          · subst h0
            cases e
            exact (ed_lcR2 (lo := 1) (hi := 0) (fun _ => true) (fun k => PyData.none) (ea_cons ed_int (ea_cons (ed_cb (ea_cons (ed_var rfl) ea_nil) (rda_len rfl)) ea_nil)) (by omega) (by omega) (fun k _ => et_yes) (fun k hk _ => absurd hk (by simp))).cast rfl
          have h1 : 0 < l.length := List.length_pos_iff.mpr h0
          have en : ((l.length : Int) - 1).toNat = bs.length := by omega
          refine (ed_lcR2 (lo := 1) (hi := (l.length : Int)) (fun _ => true) (fun k => PyData.bool (bs.getD k false)) (ea_cons ed_int (ea_cons (ed_cb (ea_cons (ed_var rfl) ea_nil) (rda_len rfl)) ea_nil)) (by omega) (by omega) (fun k _ => et_yes) (fun k hk _ => ?_)).cast ?_
          · obtain ⟨a, b, g1, g2, g3⟩ := hg k (by omega)
            refine ed_op (x := .py a) (y := .py b) (ed_op (ed_var rfl) (ed_op (ed_var rfl) ed_int rd_I) (rd_ixT ?_)) (ed_op (ed_var rfl) (ed_var rfl) (rd_ixT ?_)) (rd_ltP g3)
            · have : (1 : Int) + (k : Int) - 1 = (k : Int) := by omega
              rw [this]
              exact atI_nat g1
            · have : (1 : Int) + (k : Int) = ((k + 1 : Nat) : Int) := by omega
              rw [this]
              exact atI_nat g2
          · rw [fm_map, en, range_getD]
      · rw [if_neg hz] at h
        cases h
end
end K01

set_option Elab.async false
set_option linter.all false
set_option maxRecDepth 100000
set_option maxHeartbeats 4000000
namespace K01
open PySem L2 Dl PySem.Spec PyProof.Rows
abbrev s21 : Stmt := top 21
abbrev s22 : Stmt := top 22
abbrev s23 : Stmt := top 23
abbrev s24 : Stmt := top 24
abbrev s25 : Stmt := top 25
def splits : List Str := ["plain", "poison", "quiet"]
def cries : List Str := ["loud", "still"]
def rules : List Str := ["endless", "split", "cry", "hold"]
/-- the module's constants -/
structure Cst (W : Wd) (mg : Str → Option Value) : Prop where
  lh : ∃ t, mg "LEAST_HOSTS" = some (.int 2 t)
  mh : ∃ t, mg "MOST_HOSTS" = some (.int 4 t)
  mt : ∃ t, mg "MOST_TIES" = some (.int 5 t)
  mw : ∃ t, mg "MOST_WEAK" = some (.int 3 t)
  le : ∃ t, mg "LEAST_ENDLESS" = some (.int 2 t)
  me : ∃ t, mg "MOST_ENDLESS" = some (.int 5 t)
  mo : ∃ t, mg "MOST_HOLD" = some (.int 2 t)
  ru : ∃ a, mg "RULES" = some (.ref a) ∧ ∀ P, Dp W.K P (.ref a) (.tuple (rules.map PyData.str))
  sp : ∃ a, mg "SPLITS" = some (.ref a) ∧ ∀ P, Dp W.K P (.ref a) (.tuple (splits.map PyData.str))
  cr : ∃ a, mg "CRIES" = some (.ref a) ∧ ∀ P, Dp W.K P (.ref a) (.tuple (cries.map PyData.str))
def ltI : PyData → PyData → Bool
  | .int i, .int j => decide (i < j)
  | _, _ => false
def tieP : PyData → Int → Bool
  | .tuple [a, b], n => within a 0 (n - 1) && (within b 0 (n - 1) && ltI a b)
  | _, _ => false
def F21 : List D → Option D
  | [.py a, .py (.int n)] => some (pB (tieP a n))
  | _ => none
theorem within_int {a : PyData} {l m : Int} (h : within a l m = true) : ∃ i, a = .int i ∧ l ≤ i ∧ i ≤ m := by
  cases a with
  | int i =>
    simp [within] at h
    exact ⟨i, rfl, h.1, h.2⟩
  | _ => cases h
section
variable {P : Program} {w : World} {W : Wd} {mg : Str → Option Value} {base : Heap}
theorem sc21 : FnScope ["thing", "hosts", "low", "high"] ["thing", "hosts"] (defScope s21) := ⟨rfl, rfl, rfl, by decide +kernel, rfl, by decide +kernel, by decide +kernel⟩
theorem ok21 {f : Addr} {fd : FuncData} (F : Fun W.K "is_tie" "is_tie" s21 f fd) (C6 : CD P w W mg base "is_within" 2 ["thing", "least", "most"] F6) (C8 : CD P w W mg base "is_group" 1 ["thing", "size"] F8) :
    FnOk P w W.K mg base CX0 3 f fd ["thing", "hosts"] (spD W F21) := by
  refine okD F sc21 (fun l d h => ?_) (fun cdv A outer s H E hr l d h => ?_)
  · match l, h with | [.py a, .py (.int n)], _ => rfl
  · match l, h with
    | [.py a, .py (.int n)], h =>
      cases h
      refine ⟨_, pss_cons (ps_if (pt_not (pt_val (pe_cd C8 (hr.mono (by decide)) (pa_cons (pv 0) (pa_cons pe_int pa_nil))))) (pss_one (ps_ret pe_bl)) pss_nil)
        (pss_cons (ps_asg (pv 0) (pg_tup (by rfl) (pgs_cons (pg_name (i := 2) sc21.nd rfl (.inl rfl)) (pgs_cons (pg_name (i := 3) sc21.nd rfl (.inl rfl)) pgs_nil))))
        (pss_one (ps_ret (pe_and (pe_cd C6 hr (pa_cons (pv 2) (pa_cons pe_int (pa_cons (pe_op op_sub (pv 1) pe_int) pa_nil))))
          (pe_and (pe_cd C6 hr (pa_cons (pv 3) (pa_cons pe_int (pa_cons (pe_op op_sub (pv 1) pe_int) pa_nil)))) (pe_one (pe_cmpR op_lt (pv 2) (pv 3) (nomark _)))))))), ?_⟩
      refine sd_when (et_not (et_B (ed_call (z := pB (grp a 2)) (ea_cons (ed_var rfl) (ea_cons ed_int ea_nil)) rfl))) (fun hg => sd_ret (ed_bl.cast ?_)) (fun hg => ?_)
      · cases a with
        | tuple l =>
          match l, hg with
          | [], _ => rfl
          | [_], _ => rfl
          | [_, _], hg => cases hg
          | _ :: _ :: _ :: _, _ => rfl
        | _ => rfl
      · obtain ⟨x, y, rfl⟩ : ∃ x y, a = .tuple [x, y] := by
          cases a with
          | tuple l =>
            match l, hg with
            | [x, y], _ => exact ⟨x, y, rfl⟩
            | [], hg => cases hg
            | [_], hg => cases hg
            | a :: b :: c :: r, hg =>
              simp [grp] at hg
              omega
          | _ => cases hg
        refine sd_seq (sd_unp2 (ed_var rfl)) (sd_ret ?_)
        have arg : ∀ (d : D) {i : Nat}, (((startD ["thing", "hosts", "low", "high"] [D.py (.tuple [x, y]), .py (.int n)]).set 2 (some (.py x))).set 3 (some (.py y)))[i]? = some (some d) →
            EA W (tCons (tVar i) (tCons (tC (.int 0)) (tCons (tOp (rI0 fun i j => .int (i - j)) (tVar 1) (tC (.int 1))) tNil))) (((startD ["thing", "hosts", "low", "high"] [D.py (.tuple [x, y]), .py (.int n)]).set 2 (some (.py x))).set 3 (some (.py y))) [d, pI 0, pI (n - 1)] :=
          fun d i h => ea_cons (ed_var h) (ea_cons ed_int (ea_cons (ed_op (ed_var rfl) ed_int rd_I) ea_nil))
        refine ed_andV (ed_call (arg (.py x) rfl) rfl) (fun h1 => ed_andV (ed_call (arg (.py y) rfl) rfl) (fun h2 => ?_))
        obtain ⟨i, rfl, _⟩ := within_int h1
        obtain ⟨j, rfl, _⟩ := within_int h2
        exact ed_op (ed_var rfl) (ed_var rfl) rd_IB
/-! ties -/
def lenIn : PyData → Bool
  | .tuple l => decide (1 ≤ (l.length : Int)) && decide ((l.length : Int) ≤ 5)
  | _ => false
def tiesP : PyData → Int → Bool
  | .tuple l, n => (decide (1 ≤ (l.length : Int)) && decide ((l.length : Int) ≤ 5)) && (l.all (tieP · n) && ((adj l).getD []).all id)
  | _, _ => false
def F22 : List D → Option D
  | [.py a, .py (.int n)] => some (pB (tiesP a n))
  | _ => none
theorem tie_ints {a : PyData} {n : Int} (h : tieP a n = true) : ∃ i j : Int, a = .tuple ([i, j].map PyData.int) := by
  cases a with
  | tuple l =>
    match l, h with
    | [x, y], h =>
      simp only [tieP, Bool.and_eq_true] at h
      obtain ⟨i, rfl, _⟩ := within_int h.1
      obtain ⟨j, rfl, _⟩ := within_int h.2.1
      exact ⟨i, j, rfl⟩
    | [], h => cases h
    | [_], h => cases h
    | _ :: _ :: _ :: _, h => cases h
  | _ => cases h
theorem ties_adj {n : Int} : ∀ {l : List PyData}, l.all (tieP · n) = true → ∃ bs, adj l = some bs
  | [], _ => ⟨[], rfl⟩
  | [a], _ => ⟨[], rfl⟩
  | a :: b :: r, h => by
    rw [List.all_cons, Bool.and_eq_true] at h
    obtain ⟨bs, e⟩ := ties_adj h.2
    have h2 := h.2
    rw [List.all_cons, Bool.and_eq_true] at h2
    obtain ⟨i, j, rfl⟩ := tie_ints h.1
    obtain ⟨k, m, rfl⟩ := tie_ints h2.1
    refine ⟨HT.lexLt [i, j] [k, m] :: bs, ?_⟩
    unfold adj
    rw [e]
    rfl
theorem sc22 : FnScope ["things", "hosts", "thing"] ["things", "hosts"] (defScope s22) := ⟨rfl, rfl, rfl, by decide +kernel, rfl, by decide +kernel, by decide +kernel⟩
theorem map_all {α : Type} (l : List α) (p : α → Bool) : (l.map p).all id = l.all p := by
  rw [List.all_map]
  rfl
theorem ok22 {f : Addr} {fd : FuncData} (F : Fun W.K "are_ties" "are_ties" s22 f fd) (T : Blt mg) (S : Cst W mg) (C21 : CD P w W mg base "is_tie" 3 ["thing", "hosts"] F21) (C9 : CD P w W mg base "is_rising" 1 ["things"] F9) :
    FnOk P w W.K mg base CX0 4 f fd ["things", "hosts"] (spD W F22) := by
  refine okD F sc22 (fun l d h => ?_) (fun cdv A outer s H E hr l d h => ?_)
  · match l, h with | [.py a, .py (.int n)], _ => rfl
  · match l, h with
    | [.py a, .py (.int n)], h =>
      cases h
      obtain ⟨tk, hmt⟩ := S.mt
      refine ⟨_, pss_cons (ps_if (PW.pt (pw_or (pt_not (pt_val (pe_callB call_isi (by rfl) T.isi (by decide +kernel) (pa_cons (pv 0) (pa_cons (pe_bltn (v := .ty "tuple") (by rfl) T.tuple (by decide +kernel) rfl) pa_nil)))))
          (pw_or1 (pt_not (pt_chain op_le op_le pe_int (pe_callB call_len_seq (by rfl) T.len PySem.boot_len (pa_cons (pv 0) pa_nil)) (pe_glob (v := .int 5) rfl hmt ⟨_, rfl⟩)))))) (pss_one (ps_ret pe_bl)) pss_nil)
        (pss_one (ps_ret (pe_and (pe_callB (cr_all rfl) (by rfl) T.all (by decide +kernel) (pa_cons (pe_lc (own := [("thing", 2)]) (g := gName 2) (tt := tYes) rfl sc22.nd (pi_tup (pv 0))
            (blkOk_by (N := ["things", "hosts", "thing"]) (sc := defScope s22) (by decide +kernel)) (fun _ _ _ _ _ => pg_name (i := 2) sc22.nd rfl (Or.inl rfl)) (fun _ _ _ _ _ => pts_nil)
            (fun _ _ _ _ _ => pe_cd (W := W) C21 hr (pa_cons (pv 2) (pa_cons (pv 1) pa_nil)))) pa_nil))
          (pe_one (pe_cd C9 (hr.mono (by decide)) (pa_cons (pv 0) pa_nil)))))), ?_⟩
      refine sd_when (b := !(isiD "tuple" (tyD a)) || !(lenIn a)) (et_or (et_not (et_B (ed_cb (ea_cons (ed_var rfl) (ea_cons ed_ty ea_nil)) (rda_isi (kit_tuple a))))) (fun hi => et_not (et_test ?_))) (fun hg => sd_ret (ed_bl.cast ?_)) (fun hg => ?_)
      · cases a with
        | tuple l => exact ed_chain ed_int (ed_cb (ea_cons (ed_var rfl) ea_nil) (rda_len rfl)) rd_IB (fun _ => ed_int) (fun hk => rd_IB.cast3 (by rw [lenIn, hk]; rfl)) (fun hk => by rw [lenIn, hk]; rfl)
        | _ => cases hi
      · cases a with
        | tuple l =>
          have this : lenIn (.tuple l) = false := by
            cases q : lenIn (.tuple l) with
            | false => rfl
            | true => rw [q] at hg; cases hg
          unfold lenIn at this
          simp only [tiesP, this, Bool.false_and]
        | _ => rfl
      · cases a with
        | tuple l =>
          have hz : (decide (1 ≤ (l.length : Int)) && decide ((l.length : Int) ≤ 5)) = true := by
            simpa [isiD, tyD, lenIn] using hg
          have hz5 : l.length ≤ 5 := by
            simp at hz
            omega
          refine sd_ret ((ed_andV (a := l.all (tieP · n)) (b := ((adj l).getD []).all id) ?_ (fun ha => ?_)).cast ?_)
          · refine (ed_cb (l := [pL ((l.map (tieP · n)).map PyData.bool)]) (ea_cons ?_ ea_nil) rda_all).cast (by rw [map_all])
            refine (ed_lcT (fun _ => true) (fun x => PyData.bool (tieP x n)) (ed_var rfl) (by omega) (fun _ _ => et_yes) (fun x _ _ => ed_call (ea_cons (ed_var rfl) (ea_cons (ed_var rfl) ea_nil)) rfl)).cast ?_
            rw [fm_map, List.map_map]
            rfl
          · obtain ⟨bs, e⟩ := ties_adj ha
            refine ed_call (ea_cons (ed_var rfl) ea_nil) ?_
            show (if l.length ≤ 1000 then (adj l).map (fun bs => pB (bs.all id)) else none) = _
            rw [if_pos (by omega), e]
            rfl
          · show pB _ = pB (_ && (_ && _))
            rw [hz, Bool.true_and]
        | _ => cases hg
end
end K01

set_option Elab.async false
set_option linter.all false
set_option maxRecDepth 100000
set_option maxHeartbeats 4000000
namespace K01
open PySem L2 Dl PySem.Spec PyProof.Rows
/-! weak ties -/
def fewP : PyData → Bool
  | .tuple l => decide ((l.length : Int) ≤ 3)
  | _ => false
def weakP : PyData → Int → Bool
  | .tuple l, m => decide ((l.length : Int) ≤ 3) && (l.all (within · 0 (m - 1)) && ((adj l).getD []).all id)
  | _, _ => false
def F23 : List D → Option D
  | [.py a, .py (.int n)] => some (pB (weakP a n))
  | _ => none
theorem weak_adj {n m : Int} : ∀ {l : List PyData}, l.all (within · n m) = true → ∃ bs, adj l = some bs
  | [], _ => ⟨[], rfl⟩
  | [a], _ => ⟨[], rfl⟩
  | a :: b :: r, h => by
    rw [List.all_cons, Bool.and_eq_true] at h
    obtain ⟨bs, e⟩ := weak_adj h.2
    have h2 := h.2
    rw [List.all_cons, Bool.and_eq_true] at h2
    obtain ⟨i, rfl, _⟩ := within_int h.1
    obtain ⟨k, rfl, _⟩ := within_int h2.1
    refine ⟨decide (i < k) :: bs, ?_⟩
    unfold adj
    rw [e]
    rfl
def oS (s : Option Str) : PyData := match s with
  | some s => .str s
  | none => .none
def ruleP (e s c h : PyData) : Option Str :=
  if within e 2 5 = false then some ("endless" : Str) else if wordIn s splits = false then some ("split" : Str) else if wordIn c cries = false then some ("cry" : Str) else if within h 0 2 = false then some ("hold" : Str) else none
def F24 : List D → Option D
  | [.py e, .py s, .py c, .py h] => some (.py (oS (ruleP e s c h)))
  | _ => none
def lenOf : PyData → Int
  | .tuple l => l.length
  | _ => 0
def hostsOf : PyData → Int
  | .int i => i
  | _ => 0
def shapeP (h t k : PyData) : Option Str :=
  if within h 2 4 = false then some ("hosts" : Str) else if tiesP t (hostsOf h) = false then some ("ties" : Str) else if weakP k (lenOf t) = false then some ("weak" : Str) else none
def F25 : List D → Option D
  | [.py h, .py t, .py k] => some (.py (oS (shapeP h t k)))
  | _ => none
section
variable {P : Program} {w : World} {W : Wd} {mg : Str → Option Value} {base : Heap}
theorem sc23 : FnScope ["things", "many", "thing"] ["things", "many"] (defScope s23) := ⟨rfl, rfl, rfl, by decide +kernel, rfl, by decide +kernel, by decide +kernel⟩
theorem ok23 {f : Addr} {fd : FuncData} (F : Fun W.K "are_weak" "are_weak" s23 f fd) (T : Blt mg) (S : Cst W mg) (C6 : CD P w W mg base "is_within" 2 ["thing", "least", "most"] F6) (C9 : CD P w W mg base "is_rising" 1 ["things"] F9) :
    FnOk P w W.K mg base CX0 3 f fd ["things", "many"] (spD W F23) := by
  refine okD F sc23 (fun l d h => ?_) (fun cdv A outer s H E hr l d h => ?_)
  · match l, h with | [.py a, .py (.int n)], _ => rfl
  · match l, h with
    | [.py a, .py (.int n)], h =>
      cases h
      obtain ⟨tk, hmt⟩ := S.mw
      refine ⟨_, pss_cons (ps_if (PW.pt (pw_or (pt_not (pt_val (pe_callB call_isi (by rfl) T.isi (by decide +kernel) (pa_cons (pv 0) (pa_cons (pe_bltn (v := .ty "tuple") (by rfl) T.tuple (by decide +kernel) rfl) pa_nil)))))
          (pw_or1 (pt_cmpR op_gt (pe_callB call_len_seq (by rfl) T.len PySem.boot_len (pa_cons (pv 0) pa_nil)) (pe_glob (v := .int 3) rfl hmt ⟨_, rfl⟩) (nomark _))))) (pss_one (ps_ret pe_bl)) pss_nil)
        (pss_one (ps_ret (pe_and (pe_callB (cr_all rfl) (by rfl) T.all (by decide +kernel) (pa_cons (pe_lc (own := [("thing", 2)]) (g := gName 2) (tt := tYes) rfl sc23.nd (pi_tup (pv 0))
            (blkOk_by (N := ["things", "many", "thing"]) (sc := defScope s23) (by decide +kernel)) (fun _ _ _ _ _ => pg_name (i := 2) sc23.nd rfl (Or.inl rfl)) (fun _ _ _ _ _ => pts_nil)
            (fun _ _ _ _ _ => pe_cd (W := W) C6 hr (pa_cons (pv 2) (pa_cons pe_int (pa_cons (pe_op op_sub (pv 1) pe_int) pa_nil))))) pa_nil))
          (pe_one (pe_cd C9 (hr.mono (by decide)) (pa_cons (pv 0) pa_nil)))))), ?_⟩
      refine sd_when (b := !(isiD "tuple" (tyD a)) || !(fewP a)) (et_or (et_not (et_B (ed_cb (ea_cons (ed_var rfl) (ea_cons ed_ty ea_nil)) (rda_isi (kit_tuple a))))) (fun hi => et_test ?_)) (fun hg => sd_ret (ed_bl.cast ?_)) (fun hg => ?_)
      · cases a with
        | tuple l =>
          refine (ed_op (ed_cb (ea_cons (ed_var rfl) ea_nil) (rda_len rfl)) ed_int (rd_IB (f := fun i j => decide (j < i)))).cast ?_
          have : decide ((3 : Int) < (l.length : Int)) = !fewP (.tuple l) := by
            show decide ((3 : Int) < (l.length : Int)) = !decide ((l.length : Int) ≤ 3)
            by_cases q : (3 : Int) < (l.length : Int)
            · rw [decide_eq_true q, decide_eq_false (by omega)]; rfl
            · rw [decide_eq_false q, decide_eq_true (by omega)]; rfl
          rw [this]
        | _ => cases hi
      · cases a with
        | tuple l =>
          have this : fewP (.tuple l) = false := by
            cases q : fewP (.tuple l) with
            | false => rfl
            | true => rw [q] at hg; cases hg
          unfold fewP at this
          simp only [weakP, this, Bool.false_and]
        | _ => rfl
      · cases a with
        | tuple l =>
          have hz : fewP (.tuple l) = true := by simpa [isiD, tyD] using hg
          have hz : decide ((l.length : Int) ≤ 3) = true := hz
          have hz5 : l.length ≤ 3 := by
            simp at hz
            omega
          refine sd_ret ((ed_andV (a := l.all (within · 0 (n - 1))) (b := ((adj l).getD []).all id) ?_ (fun ha => ?_)).cast ?_)
          · refine (ed_cb (l := [pL ((l.map (within · 0 (n - 1))).map PyData.bool)]) (ea_cons ?_ ea_nil) rda_all).cast (by rw [map_all])
            refine (ed_lcT (fun _ => true) (fun x => PyData.bool (within x 0 (n - 1))) (ed_var rfl) (by omega) (fun _ _ => et_yes) (fun x _ _ => ed_call (ea_cons (ed_var rfl) (ea_cons ed_int (ea_cons (ed_op (ed_var rfl) ed_int rd_I) ea_nil))) rfl)).cast ?_
            rw [fm_map, List.map_map]
            rfl
          · obtain ⟨bs, e⟩ := weak_adj ha
            refine ed_call (ea_cons (ed_var rfl) ea_nil) ?_
            show (if l.length ≤ 1000 then (adj l).map (fun bs => pB (bs.all id)) else none) = _
            rw [if_pos (by omega), e]
            rfl
          · show pB _ = pB (_ && (_ && _))
            rw [hz, Bool.true_and]
        | _ => cases hg
theorem strs_splits : strsOf (splits.map PyData.str) = some splits := rfl
theorem strs_cries : strsOf (cries.map PyData.str) = some cries := rfl
theorem strs_rules : strsOf (rules.map PyData.str) = some rules := rfl
theorem F7_w {a : PyData} {ws : List Str} (h : strsOf (ws.map PyData.str) = some ws) : F7 [.py a, pT (ws.map PyData.str)] = some (pB (wordIn a ws)) := by
  show (strsOf (ws.map PyData.str)).map _ = _
  rw [h]
  rfl
theorem ruleP_1 {e s c h : PyData} (h1 : (!within e 2 5) = true) : ruleP e s c h = some ("endless" : Str) := by
  unfold ruleP
  rw [if_pos (by simpa using h1)]
theorem ruleP_2 {e s c h : PyData} (h1 : (!within e 2 5) = false) (h2 : (!wordIn s splits) = true) : ruleP e s c h = some ("split" : Str) := by
  unfold ruleP
  rw [if_neg (by simpa using h1), if_pos (by simpa using h2)]
theorem ruleP_3 {e s c h : PyData} (h1 : (!within e 2 5) = false) (h2 : (!wordIn s splits) = false) (h3 : (!wordIn c cries) = true) : ruleP e s c h = some ("cry" : Str) := by
  unfold ruleP
  rw [if_neg (by simpa using h1), if_neg (by simpa using h2), if_pos (by simpa using h3)]
theorem ruleP_4 {e s c h : PyData} (h1 : (!within e 2 5) = false) (h2 : (!wordIn s splits) = false) (h3 : (!wordIn c cries) = false) (h4 : (!within h 0 2) = true) : ruleP e s c h = some ("hold" : Str) := by
  unfold ruleP
  rw [if_neg (by simpa using h1), if_neg (by simpa using h2), if_neg (by simpa using h3), if_pos (by simpa using h4)]
theorem ruleP_5 {e s c h : PyData} (h1 : (!within e 2 5) = false) (h2 : (!wordIn s splits) = false) (h3 : (!wordIn c cries) = false) (h4 : (!within h 0 2) = false) : ruleP e s c h = none := by
  unfold ruleP
  rw [if_neg (by simpa using h1), if_neg (by simpa using h2), if_neg (by simpa using h3), if_neg (by simpa using h4)]
theorem sc24 : FnScope ["endless", "split", "cry", "hold"] ["endless", "split", "cry", "hold"] (defScope s24) := ⟨rfl, rfl, rfl, by decide +kernel, rfl, by decide +kernel, by decide +kernel⟩
theorem ok24 {f : Addr} {fd : FuncData} (F : Fun W.K "wrong_rule" "wrong_rule" s24 f fd) (S : Cst W mg) (C6 : CD P w W mg base "is_within" 2 ["thing", "least", "most"] F6) (C7 : CD P w W mg base "is_word" 1 ["thing", "words"] F7) :
    FnOk P w W.K mg base CX0 3 f fd ["endless", "split", "cry", "hold"] (spD W F24) := by
  refine okD F sc24 (fun l d h => ?_) (fun cdv A outer s H E hr l d h => ?_)
  · match l, h with | [.py e, .py s, .py c, .py h], _ => rfl
  · match l, h with
    | [.py e, .py sp, .py c, .py ho], hh =>
      cases hh
      obtain ⟨_, m1⟩ := S.le
      obtain ⟨_, m2⟩ := S.me
      obtain ⟨_, m3⟩ := S.mo
      obtain ⟨a1, g1, q1⟩ := S.sp
      obtain ⟨a2, g2, q2⟩ := S.cr
      refine ⟨_, pss_cons (ps_if (pt_not (pt_val (pe_cd C6 hr (pa_cons (pv 0) (pa_cons (pe_glob (v := .int 2) rfl m1 ⟨_, rfl⟩) (pa_cons (pe_glob (v := .int 5) rfl m2 ⟨_, rfl⟩) pa_nil)))))) (pss_one (ps_ret pe_str)) pss_nil)
        (pss_cons (ps_if (pt_not (pt_val (pe_cd C7 (hr.mono (by decide)) (pa_cons (pv 1) (pa_cons (pe_glob (v := .ref a1) rfl g1 rfl) pa_nil))))) (pss_one (ps_ret pe_str)) pss_nil)
        (pss_cons (ps_if (pt_not (pt_val (pe_cd C7 (hr.mono (by decide)) (pa_cons (pv 2) (pa_cons (pe_glob (v := .ref a2) rfl g2 rfl) pa_nil))))) (pss_one (ps_ret pe_str)) pss_nil)
        (pss_cons (ps_if (pt_not (pt_val (pe_cd C6 hr (pa_cons (pv 3) (pa_cons pe_int (pa_cons (pe_glob (v := .int 2) rfl m3 ⟨_, rfl⟩) pa_nil)))))) (pss_one (ps_ret pe_str)) pss_nil)
        (pss_one (ps_ret pe_non))))), ?_⟩
      refine sd_when (et_not (et_B (ed_call (z := pB (within e 2 5)) (ea_cons (ed_var rfl) (ea_cons ed_int (ea_cons ed_int ea_nil))) rfl))) (fun h1 => sd_ret (ed_str.cast (by rw [ruleP_1 h1]; rfl))) (fun h1 => ?_)
      refine sd_when (et_not (et_B (ed_call (z := pB (wordIn sp splits)) (ea_cons (ed_var rfl) (ea_cons (ed_c (d := pT (splits.map PyData.str)) q1) ea_nil)) (F7_w strs_splits)))) (fun h2 => sd_ret (ed_str.cast (by rw [ruleP_2 h1 h2]; rfl))) (fun h2 => ?_)
      refine sd_when (et_not (et_B (ed_call (z := pB (wordIn c cries)) (ea_cons (ed_var rfl) (ea_cons (ed_c (d := pT (cries.map PyData.str)) q2) ea_nil)) (F7_w strs_cries)))) (fun h3 => sd_ret (ed_str.cast (by rw [ruleP_3 h1 h2 h3]; rfl))) (fun h3 => ?_)
      refine sd_when (et_not (et_B (ed_call (z := pB (within ho 0 2)) (ea_cons (ed_var rfl) (ea_cons ed_int (ea_cons ed_int ea_nil))) rfl))) (fun h4 => sd_ret (ed_str.cast (by rw [ruleP_4 h1 h2 h3 h4]; rfl))) (fun h4 => ?_)
      exact sd_ret (ed_non.cast (by rw [ruleP_5 h1 h2 h3 h4]; rfl))
theorem ties_tuple {t : PyData} {n : Int} (h : tiesP t n = true) : ∃ l, t = .tuple l ∧ l.length ≤ 5 := by
  cases t with
  | tuple l =>
    simp only [tiesP, Bool.and_eq_true, decide_eq_true_eq] at h
    exact ⟨l, rfl, by omega⟩
  | _ => cases h
theorem sc25 : FnScope ["hosts", "ties", "weak"] ["hosts", "ties", "weak"] (defScope s25) := ⟨rfl, rfl, rfl, by decide +kernel, rfl, by decide +kernel, by decide +kernel⟩
theorem ok25 {f : Addr} {fd : FuncData} (F : Fun W.K "wrong_shape" "wrong_shape" s25 f fd) (T : Blt mg) (S : Cst W mg) (C6 : CD P w W mg base "is_within" 2 ["thing", "least", "most"] F6) (C22 : CD P w W mg base "are_ties" 4 ["things", "hosts"] F22) (C23 : CD P w W mg base "are_weak" 3 ["things", "many"] F23) :
    FnOk P w W.K mg base CX0 5 f fd ["hosts", "ties", "weak"] (spD W F25) := by
  refine okD F sc25 (fun l d h => ?_) (fun cdv A outer s H E hr l d h => ?_)
  · match l, h with | [.py e, .py s, .py c], _ => rfl
  · match l, h with
    | [.py hs, .py t, .py k], hh =>
      cases hh
      obtain ⟨_, m1⟩ := S.lh
      obtain ⟨_, m2⟩ := S.mh
      refine ⟨_, pss_cons (ps_if (pt_not (pt_val (pe_cd C6 (hr.mono (by decide)) (pa_cons (pv 0) (pa_cons (pe_glob (v := .int 2) rfl m1 ⟨_, rfl⟩) (pa_cons (pe_glob (v := .int 4) rfl m2 ⟨_, rfl⟩) pa_nil)))))) (pss_one (ps_ret pe_str)) pss_nil)
        (pss_cons (ps_if (pt_not (pt_val (pe_cd C22 hr (pa_cons (pv 1) (pa_cons (pv 0) pa_nil))))) (pss_one (ps_ret pe_str)) pss_nil)
        (pss_cons (ps_if (pt_not (pt_val (pe_cd C23 (hr.mono (by decide)) (pa_cons (pv 2) (pa_cons (pe_callB call_len_seq (by rfl) T.len PySem.boot_len (pa_cons (pv 1) pa_nil)) pa_nil))))) (pss_one (ps_ret pe_str)) pss_nil)
        (pss_one (ps_ret pe_non)))), ?_⟩
      refine sd_when (et_not (et_B (ed_call (z := pB (within hs 2 4)) (ea_cons (ed_var rfl) (ea_cons ed_int (ea_cons ed_int ea_nil))) rfl))) (fun h1 => sd_ret (ed_str.cast ?_)) (fun h1 => ?_)
      · have h1' : within hs 2 4 = false := by simpa using h1
        unfold shapeP
        rw [if_pos h1']
        rfl
      have h1' : ¬ within hs 2 4 = false := by simpa using h1
      obtain ⟨n, rfl, _⟩ := within_int (a := hs) (l := 2) (m := 4) (by simpa using h1)
      refine sd_when (et_not (et_B (ed_call (z := pB (tiesP t n)) (ea_cons (ed_var rfl) (ea_cons (ed_var rfl) ea_nil)) rfl))) (fun h2 => sd_ret (ed_str.cast ?_)) (fun h2 => ?_)
      · have h2' : tiesP t (hostsOf (.int n)) = false := by simpa [hostsOf] using h2
        unfold shapeP
        rw [if_neg h1', if_pos h2']
        rfl
      have h2' : ¬ tiesP t (hostsOf (.int n)) = false := by simpa [hostsOf] using h2
      obtain ⟨l, rfl, hl⟩ := ties_tuple (t := t) (n := n) (by simpa using h2)
      refine sd_when (et_not (et_B (ed_call (z := pB (weakP k (l.length : Int))) (ea_cons (ed_var rfl) (ea_cons (ed_cb (ea_cons (ed_var rfl) ea_nil) (rda_len rfl)) ea_nil)) rfl))) (fun h3 => sd_ret (ed_str.cast ?_)) (fun h3 => sd_ret (ed_non.cast ?_))
      · have h3' : weakP k (lenOf (.tuple l)) = false := by simpa [lenOf] using h3
        unfold shapeP
        rw [if_neg h1', if_neg h2', if_pos h3']
        rfl
      · have h3' : ¬ weakP k (lenOf (.tuple l)) = false := by simpa [lenOf] using h3
        unfold shapeP
        rw [if_neg h1', if_neg h2', if_neg h3']
        rfl
end
end K01

set_option Elab.async false
set_option linter.all false
set_option maxRecDepth 100000
set_option maxHeartbeats 4000000
/-! an own error over ValueError whose __init__ says super().__init__(f'..{part}') and keeps part -/
namespace PySem
namespace ExP
open PySem.W PySem.Calls PyProof.Rows PySem.HandSPX PySem.Spec
/-! ### the text of __init__ -/
def iA (p1 p2 p3 : Pos) (k : Const) : Arguments := { posonlyargs := [], args := [{ arg := "self", annotation := none, pos := p1 }, { arg := "part", annotation := none, pos := p2 }], vararg := none, kwonlyargs := [], kw_defaults := [], kwarg := none, defaults := [.Constant k 0 p3] }
def iB (msg : Str) (q1 q2 q3 q4 q5 q6 q7 q8 q9 q10 q11 q12 q13 : Pos) : List Stmt :=
  [.Expr (.Call (.Attribute (.Call (.Name "super" q1) [] [] q2) "__init__" q3) [.JoinedStr [.Constant (.str msg) 0 q4, .FormattedValue (.Name "part" q5) (-1) none q6] q7] [] q8) q9,
    .Assign [.Attribute (.Name "self" q10) "part" q11] (.Name "part" q12) q13]
def iS : Scope := { kind := .function, names := [(PySem.Str.ofString "self", .local), (PySem.Str.ofString "part", .local), (PySem.Str.ofString "__class__", .free), (PySem.Str.ofString "super", .globalImplicit)], isGenerator := false, isCoroutine := false, more := [] }
abbrev mwV (x : Addr) : Obj := kxs_mw "ValueError.__init__" x
/-- what the written part says of the class at C and of its __init__ at fI -/
structure SupTxt (prog : Program) (K : Frag) (mg : Str → Option Value) (C fI : Addr) : Prop where
  cls : ∃ nm q N bs bm sn sub ab col dd k0 k1 k2 k3 k5, K.lookup C = some (excClassObj nm q C N bs bm true sn sub ab col dd k0 k1 k2 k3 k5 "ValueError.__new__") ∧ refsVE bm = true
  sa : findIn K (.ref C) "__setattr__" = some (some (.builtin "object.__setattr__"))
  noP : findIn K (.ref C) "part" = some none
  iC : findIn K (.ref C) "__init__" = some (some (.ref fI))
  tC : typeIn K (.ref fI) = some (.type "function")
  kC : keepIn K (.ref C) = true
  exC : subIn K (.ref C) (.type "BaseException") = some true
  veC : subIn K (.ref C) (.type "ValueError") = some true
  tyC : typeIn K (.ref C) = some (.type "type")
  hdC : hasDictIn K C = true
  ga : findIn K (.ref C) "__getattribute__" = some (some (.builtin "BaseException.__getattribute__"))
  gg : findIn K (.ref C) "__getattr__" = some none
  te : exmOne K (.ref C) (.ref C) = some true
  up : ks_superIn K C C "__init__" = some (some (.builtin "ValueError.__init__"))
  self : mroIn K C (.ref C) = some true
  opq : nsIn K cStatics "thirdparty.any" = some none
  mgS : mg "super" = none
  mgC : mg "BadNet" = some (.ref C)
  fn : ∃ (oc : Value) (od : Option Addr) (k : Const) (kV doc pm : Value) (dV : Addr) (an : Option Addr) (ct : Value) (osl : Array (Option Value)) (cda cc : Addr) (qual msg : Str) (p1 p2 p3 q1 q2 q3 q4 q5 q6 q7 q8 q9 q10 q11 q12 q13 : Pos),
    K.lookup fI = some ⟨oc, od, .func (ksFn "__init__" qual (iA p1 p2 p3 k) (iB msg q1 q2 q3 q4 q5 q6 q7 q8 q9 q10 q11 q12 q13) iS (.ref dV) kV doc pm an (.ref cda) ct cc), osl⟩ ∧ codeIn K (.ref cda) qual = true ∧ msg.length ≤ 1000 ∧ (q3.endLine == q8.line) = true ∧
    (∃ (o : Obj) (its : List Value) (n : Nat), K.lookup dV = some o ∧ o.data = .seq its.toArray n ∧ its.length = 1) ∧
    (∃ (cl : Value) (cld : Option Addr) (csl : Array (Option Value)), K.lookup cc = some ⟨cl, cld, .cell (some (.ref C)), csl⟩) ∧
    (∃ (ccl : Value) (cdd : Option Addr) (vs : Array Value) (ccs : Array (Option Value)) (file : Str) (tf : Tok), K.lookup cda = some ⟨ccl, cdd, .fields vs, ccs⟩ ∧ vs[2]? = some (.str file tf) ∧ ((prog.main.file : Str) == file) = true)
  top : (prog.main.scope.names.lookup ("super" : Str)).isSome = false
/-- what __init__ leaves of a fresh exception at x -/
structure InitEnd (h h' : Heap) (x C dx t1 : Addr) (v : Value) : Prop where
  keep : ∀ b o, b ≠ x → h.get? b = some o → h'.get? b = some o
  obj : h'.get? x = some { cls := .ref C, dict := some dx, data := .fields #[.ref t1, .none, .none, .none, .bool false, .none] }
  dbig : h.objs.size ≤ dx
  dne : dx ≠ x
  ns : h'.Ns1 dx (fun y => if y = "part" then some v else none)
/-- what is kept: a text, or None -/
def Fmt (v : Value) : Prop := v = .none ∨ ∃ (x : Str) (t : Tok), v = .str x t ∧ x.length ≤ 1000
section
variable {prog : Program} {w : World} {A : Around} {E : Value → Shared → Prop} {h : Heap} {g : Array GenState} {d : Drawn} {t : Nat} {os : OsState}
variable {nm q : Str} {C N : Addr} {bs bm : List Value} {hdct : Bool} {sn : List Str} {sub : List Value} {ab : Bool} {col : Option Bool} {dd : Option Addr} {k0 k1 k2 k3 k5 : Option Value}
theorem call_mwV {u e t0 : Addr} {rest : List Value} {Q : Value → Shared → Prop}
    (hC : h.get? C = some (excClassObj nm q C N bs bm hdct sn sub ab col dd k0 k1 k2 k3 k5 "ValueError.__new__")) (he : h.get? e = some (HandSPX.excO C t0)) (hu : h.get? u = some (mwV e)) (hrest : rest.length ≤ sizeLine)
    (hq : ∀ h' t1, (∀ b o, b ≠ e → h.get? b = some o → h'.get? b = some o) → h'.get? e = some (HandSPX.excO C t1) → Q .none ⟨h', g, d, t, os⟩) :
    wpAny (model prog w) A (call (.ref u) rest) Q E ⟨h, g, d, t, os⟩ := by
  refine wpAny_call (codeAny_of_tree ?_)
  show wpAny _ A.in1 (callAny (.ref u) ⟨rest, []⟩) _ _ _
  simp only [callAny]
  refine wpAny_bind (wpAny_load hu ?_)
  simp only [kxs_mw, show (Value.type "method-wrapper" == Value.type "method" || Value.type "method-wrapper" == Value.type "builtin_function_or_method" || Value.type "method-wrapper" == Value.type "method-wrapper") = true by decide, if_true]
  refine W.KFB.if_so (by decide) ?_
  refine wpAny_bind (ESX.check_bound F.excBase_ValueError hC he rfl ?_)
  refine wpAny_bind (wpAny_pure (wpAny_pure ?_))
  refine ⟨Code.quiet_builtin _ (by decide +kernel), codeAny_builtin F.excBase_ValueError.initEntry ?_⟩
  rw [Around.under_plainId F.excBase_ValueError.init.plain _]
  wp_walk
  refine hq _ h.objs.size (fun b o hb ho => ?_) ?_
  · rw [Heap.get?_update_other _ _ (Ne.symm hb)]
    exact Heap.get?_push_of_some _ ho
  · rw [Heap.get?_update_self _ (Heap.get?_push_of_some _ he) rfl]
    rfl
theorem fmt_part {env : Env} {v : Value} {s : Shared} {m : Str → Option Value} {p5 p6 : Pos} {Q : Value → Shared → Prop} (hv : Fmt v) (hn : s.heap.Ns env.locals m) (hm : m "part" = some v) (hk : env.scope.kind = .function) (hl : env.kindOf "part" = some .local)
    (h : ∀ (y : Str) (ty : Tok) (tk : Nat), y.length ≤ 1000 → Q (.str y ty) { s with toks := tk }) : wpAny (model prog w) A (eval (.FormattedValue (.Name "part" p5) (-1) none p6) env) Q E s := by
  refine PyProof.Rows.FormattedValue_plain (wpAny_Name (wpAny_loadName_local hk hl hn hm ?_) (by decide))
  rcases hv with rfl | ⟨x, tx, rfl, hx⟩
  · exact wpAny_formatField_none (h _ _ _ (by decide))
  · exact wpAny_formatField_str (h x tx s.toks hx) (h x s.toks _ hx) (Nat.le_trans hx (by rw [sizeLine_eq]; decide))
end
section
variable {prog : Program} {w : World} {A : Around} {R : Result → Shared → Prop} {s : Shared} {K : Frag} {mg : Str → Option Value} {C fI : Addr}
theorem sup_init (T : SupTxt prog K mg C fI) {x t0 : Addr} {v : Value} (hv : Fmt v) (X : K.In s.heap) (hlim : s.heap.NoLimit) (hG : s.heap.Ns mainGlobals mg) (hB : ∃ mb, s.heap.Ns builtinsNs mb ∧ ∀ x : Str, x ≠ "__name__" → mb x = bootBuiltins x)
    (hx : s.heap.get? x = some (excO C t0)) (hnx : K.lookup x = none) (hroom : A.depth < recursionLimit)
    (hq : ∀ h' tk dx t1, InitEnd s.heap h' x C dx t1 v → R (.ok (.ret .none)) { s with heap := h', toks := tk }) :
    codeAny (model prog w) A (.call (.ref fI) ⟨[.ref x, v], []⟩) R s := by
  obtain ⟨oc, od, k, kV, doc, pm, dV, an, ct, osl, cda, cc, qual, msg, p1, p2, p3, q1, q2, q3, q4, q5, q6, q7, q8, q9, q10, q11, q12, q13, ho, hcd, hmsg, hpos, ⟨oT, its, nT, lT, dT, zT⟩, ⟨cl, cld, csl, hcell⟩, ccl, cdd, vs, ccs, file, tf, hcode, hvs, hfile⟩ := T.fn
  obtain ⟨nm, q, N, bs, bm, sn, sub, ab, col, dd, k0, k1, k2, k3, k5, hC, hbm⟩ := T.cls
  have hcl : clsIn K C = some { name := nm, bases := bs, mro := .ref C :: bm, ns := N, qualname := q, hasDict := true, slotNames := sn, subclasses := sub, abstract := ab, collection := col, hasDel := false } := by unfold clsIn; rw [hC] <;> rfl
  obtain ⟨mb, hmb, hbt⟩ := hB
  obtain ⟨i0, rfl⟩ : ∃ i0, its = [i0] := by
    match its, zT with
    | [a], _ => exact ⟨a, rfl⟩
  have hbind : BindsTo s (ksFn "__init__" qual (iA p1 p2 p3 k) (iB msg q1 q2 q3 q4 q5 q6 q7 q8 q9 q10 q11 q12 q13) iS (.ref dV) kV doc pm an (.ref cda) ct cc) ⟨[.ref x, v], []⟩ [("self", .ref x), ("part", v)] := by
    refine L2.BindsTo.of_looks fun M => ?_
    exact L2.looks_items (k := fun _ => _) X lT dT (Looks.of_pure (by first | rfl | with_unfolding_all rfl))
  have hloc : ∀ y ∈ ([("self", .ref x), ("part", v)] : List (Str × Value)), iS.names.lookup y.1 = some .local := by
    intro y hy
    rcases List.mem_cons.mp hy with rfl | hy
    · rfl
    · rcases List.mem_cons.mp hy with rfl | hy
      · rfl
      · cases hy
  refine ks_codeAny_call_defAt hroom (X _ _ ho) rfl hlim (codeRec_of X hcd) rfl hbind (show ∀ y ∈ iS.names, y.2 ≠ .cell by decide) hloc (fun h₁ hns hk => ?_) rfl rfl rfl
  generalize hL : s.heap.objs.size = L at hns ⊢
  have X₁ : K.In h₁ := X.keeps hk
  have hx₁ := hk _ _ hx
  have hxC : x ≠ C := fun z => by rw [z, hC] at hnx; cases hnx
  have hnotc : ∀ c, (excO C t0).data ≠ .cls c := fun c e => nomatch e
  -- super().__init__(f'..')
  have hE : callEnv (ksFn "__init__" qual (iA p1 p2 p3 k) (iB msg q1 q2 q3 q4 q5 q6 q7 q8 q9 q10 q11 q12 q13) iS (.ref dV) kV doc pm an (.ref cda) ct cc) L fI = ksEnv qual iS L fI (.ref cda) cc := rfl
  rw [hE]
  refine ks_wpAt_execs_cons ?_
  refine ks_wpAt_Expr_any ?_ (by rfl) (by rfl)
  refine ks_wpAt_MethodCall (pl := do return (← importBound (.Call (.Name "super" q1) [] [] q2) (ksEnv qual iS L fI (.ref cda) cc)).getD true) ?_ ?_
  rotate_left
  · rw [arm_eval_Call]
    have hp : methodCallPos true (.Call (.Name "super" q1) [] [] q2) (ksEnv qual iS L fI (.ref cda) cc) q3 q8 = pure q8 := by
      unfold methodCallPos
      rw [hpos]
      rfl
    unfold methodCall
    have hf : ∀ (n : Nat) (a : List (Bool × Sem Value)) (b : List (Option Str × Sem Value)), methodCallForm n a b = true → methodCallForm n a b = true := fun _ _ _ h => h
    have hform : methodCallForm ([Expr.JoinedStr [Expr.Constant (Const.str msg) 0 q4, (Expr.Name (Str.ofString "part") q5).FormattedValue (-1) none q6] q7].length + ([] : List Keyword).length)
      (backTo q8 (starEach [Expr.JoinedStr [Expr.Constant (Const.str msg) 0 q4, (Expr.Name (Str.ofString "part") q5).FormattedValue (-1) none q6] q7] (ksEnv qual iS L fI (.ref cda) cc))) (backToKw q8 (keywordEach [] (ksEnv qual iS L fI (.ref cda) cc))) = true := by rfl
    simp only [hform, hp, calleeOf, if_true, pure_bind]
    rfl
  have hm1 : ([("self", .ref x), ("part", v)] : List (Str × Value)).reverse.lookup ("self" : Str) = some (Value.ref x) := by first | rfl | decide +kernel | kernel_rfl
  have hm2 : ([("self", .ref x), ("part", v)] : List (Str × Value)).reverse.lookup ("part" : Str) = some v := by first | rfl | decide +kernel | kernel_rfl
  refine ks_wpAt_super_base (env := ksEnv qual iS L fI (.ref cda) cc) (by rfl) (by rfl) (by rfl) rfl (X₁ _ _ ho) rfl rfl rfl (X₁ _ _ hcode) rfl hvs hfile T.top ?_
  refine ks_loadName_global rfl (by rfl) (loadGlobal_builtin (env := ksEnv qual iS L fI (.ref cda) cc) (hG.keeps hk) T.mgS (hmb.keeps hk) ((hbt _ (by decide +kernel)).trans Boot.«super») ⟨rfl, ?_⟩)
  refine wpAny_loadName_free rfl (by rfl) (by rfl) ⟨_, X₁ _ _ hcell, rfl⟩ ?_
  refine wpAny_loadName_local rfl (by rfl) hns hm1 ?_
  have hC₁ := X₁ _ _ hC
  refine ks_wpAny_isType_cls hC₁ rfl ⟨rfl, ?_⟩
  refine ks_wpAny_call_super hC₁ rfl hx₁ rfl (fun c e => nomatch e) (looks_mroIn X₁ T.self) (fun h₂ e₂ k₂ => ?_)
  have X₂ : K.In h₂ := X₁.keeps k₂
  have I₂ : InstAt h₂ x (excO C t0) C none := ⟨k₂ _ _ hx₁, rfl, rfl, trivial⟩
  -- the method
  have hup := T.up
  unfold ks_superIn at hup
  rw [hcl] at hup
  refine kxs_getMethod kxs_ValueError e₂ (looks_opaque X₂ T.opq) (l₀ := .ref C :: bm) (fun A Q E s k q => wpAny_bind ((looks_clsIn X₂ hcl) A _ E s k (wpAny_pure q))) rfl X₂ hup (I₂.type.andThen (looks_subIn X₂ T.veC)) hxC (by decide) ?_
  generalize hu : h₂.objs.size = u
  have k₃ : ∀ b o, h₂.get? b = some o → (h₂.push (mwV x)).get? b = some o := fun b o e => Heap.get?_push_of_some _ e
  have hmw : (h₂.push (mwV x)).get? u = some (mwV x) := by rw [← hu]; exact Heap.get?_push_size _ rfl
  have k13 : ∀ b o, h₁.get? b = some o → (h₂.push (mwV x)).get? b = some o := fun b o e => k₃ b o (k₂ b o e)
  generalize h₂.push (mwV x) = h₃ at k₃ hmw k13 ⊢
  have hns₃ := hns.keeps k13
  refine kxs_callWith (i := "ValueError.__init__") (x := x) rfl (evalArgs_plain ?_)
  show wpAny _ _ (spliced ((false, eval (.JoinedStr [.Constant (.str msg) 0 q4, .FormattedValue (.Name "part" q5) (-1) none q6] q7) (ksEnv qual iS L fI (.ref cda) cc)) :: backTo q8 (starEach [] (ksEnv qual iS L fI (.ref cda) cc)))) _ _ _
  have hz1 : (Str.empty ++ msg).length ≤ 1000 := by
    have e : (Str.empty ++ msg).length = Str.empty.length + msg.length := strLen_append ..
    have e0 : Str.empty.length = 0 := rfl
    omega
  refine Calls.spliced_cons (PyProof.Rows.JoinedStr_many (PyProof.Rows.joinParts_cons (Calls.Constant_str ⟨Nat.le_trans hz1 (by rw [sizeLine_eq]; decide), ?_⟩)))
  refine PyProof.Rows.joinParts_cons (fmt_part hv hns₃ hm2 rfl (by rfl) fun y ty tk hy => ?_)
  have hz2 : (Str.empty ++ msg ++ y).length ≤ sizeLine := by
    have e : (Str.empty ++ msg ++ y).length = (Str.empty ++ msg).length + y.length := strLen_append ..
    rw [e, sizeLine_eq]
    omega
  refine ⟨hz2, ?_⟩
  show wpAny _ _ (joinParts (Str.empty ++ msg ++ y) []) _ _ _
  refine PyProof.Rows.joinParts_nil ?_ hz2
  refine Calls.spliced_nil ⟨hmw, ?_⟩
  refine call_mwV (k13 _ _ hC₁) (k13 _ _ hx₁) hmw (by rw [sizeLine_eq]; exact (by decide : 1 ≤ 16777216)) fun h₄ t1 k₄ hx₄ => ?_
  -- self.part = part
  have hLx : L ≠ x := fun z => by
    have z1 := Heap.lt_size hx
    rw [← z, ← hL] at z1
    exact Nat.lt_irrefl _ z1
  have X₄ : K.In h₄ := fun b o e => k₄ b o (fun z => by rw [z, hnx] at e; cases e) (k13 b o (X₁ b o e))
  have hns₄ : h₄.Ns L (fun y => ([("self", .ref x), ("part", v)] : List (Str × Value)).reverse.lookup y) := hns₃.at fun o q => k₄ _ _ hLx q
  show wpAt _ _ _ (execs [.Assign [.Attribute (.Name "self" q10) "part" q11] (.Name "part" q12) q13] (ksEnv qual iS L fI (.ref cda) cc)) _ _ _
  refine wpAt_of_wpAny (wpAny_execs_cons (plainObj_wpAny_Assign_Attribute ?_))
  refine wpAny_Name (wpAny_loadName_local rfl (by rfl) hns₄ hm2 ?_) (by decide)
  refine wpAny_Name (wpAny_loadName_local rfl (by rfl) hns₄ hm1 ?_) (by decide)
  refine set_plain X₄ (ox := excO C t1) (od := none) ⟨hx₄, rfl, rfl, trivial⟩ T.sa ?_
  refine exc_osa X₄ hx₄ hcl (show refsVE (.ref C :: bm) = true from hbm) rfl T.noP (fun h₅ tk₅ dx k₅ dn dne hx₅ hn₅ => ?_)
  have old : ∀ b o, b ≠ x → s.heap.get? b = some o → h₅.get? b = some o := fun b o hb e => k₅ b o hb (k₄ b o hb (k13 b o (hk b o e)))
  have hbig : s.heap.objs.size ≤ dx := by
    have z1 : L < h₄.objs.size := hns₄.lt
    have z2 : h₄.objs.size ≤ dx := dn
    rw [hL]
    omega
  exact wpAny_execs_nil (hq h₅ tk₅ dx t1 ⟨old, hx₅, hbig, dne, hn₅⟩)
end
end ExP
end PySem

set_option Elab.async false
set_option linter.all false
set_option maxRecDepth 100000
set_option maxHeartbeats 4000000
namespace PySem
namespace ExP
open PySem.W PySem.Calls PyProof.Rows PySem.HandSPX PySem.Spec
/-- a made error -/
structure OwnMade (h h' : Heap) (e C d : Addr) (v : Value) : Prop where
  keep : ∀ b o, h.get? b = some o → h'.get? b = some o
  new : h.objs.size ≤ e
  obj : ∃ oe vs, h'.get? e = some oe ∧ oe.cls = .ref C ∧ oe.dict = some d ∧ oe.data = .fields vs ∧ vs[1]? = some .none
  dbig : h.objs.size ≤ d
  dne : d ≠ e
  ns : h'.Ns1 d (fun y => if y = "part" then some v else none)
theorem one_size (v : Value) : [v].length ≤ sizeLine := by
  rw [sizeLine_eq]
  exact (by decide : 1 ≤ 16777216)
section
variable {prog : Program} {w : World} {A : Around} {R : Result → Shared → Prop} {s : Shared} {K : Frag} {mg : Str → Option Value} {C fI : Addr}
theorem sup_made (T : SupTxt prog K mg C fI) {v : Value} (hv : Fmt v) (X : K.In s.heap) (hlim : s.heap.NoLimit) (hG : s.heap.Ns mainGlobals mg) (hB : ∃ mb, s.heap.Ns builtinsNs mb ∧ ∀ x : Str, x ≠ "__name__" → mb x = bootBuiltins x) (hroom : A.depth + 1 < recursionLimit)
    (hq : ∀ h' tk e d, OwnMade s.heap h' e C d v → R (.ok (.ret (.ref e))) { s with heap := h', toks := tk }) :
    codeAny (model prog w) A (.call (.ref C) ⟨[v], []⟩) R s := by
  obtain ⟨nm, q, N, bs, bm, sn, sub, ab, col, dd, k0, k1, k2, k3, k5, hC, hbm⟩ := T.cls
  obtain ⟨hp, g, dr, tk, os⟩ := s
  have k : ∀ b o, hp.get? b = some o → ((hp.push (kdv_tup [v])).push (excO C hp.objs.size)).get? b = some o := fun b o e => Heap.get?_push_of_some _ (Heap.get?_push_of_some _ e)
  have hget : ((hp.push (kdv_tup [v])).push (excO C hp.objs.size)).get? (hp.objs.size + 1) = some (excO C hp.objs.size) := by heap_get
  have hnx : K.lookup (hp.objs.size + 1) = none := by
    cases e : K.lookup (hp.objs.size + 1) with
    | none => rfl
    | some o =>
      have z : hp.get? (hp.objs.size + 1) = some o := X _ _ e
      exact absurd (Nat.lt_of_succ_lt (Heap.lt_size z)) (Nat.lt_irrefl _)
  refine call_own F.excBase_ValueError (fun X => refsVE_contains X bm hbm) (X _ _ hC) (looks_findIn X T.iC) (fun self => bind_fn X self T.tC) (one_size v) ?_
  refine sup_init (s := ⟨(hp.push (kdv_tup [v])).push (excO C hp.objs.size), g, dr, tk, os⟩) T hv (X.keeps k) (hlim.keeps k) (hG.keeps k) ?_ hget hnx ?_ fun h' tk' dx t1 ⟨k', hx, dn, dne, hns⟩ => ?_
  · obtain ⟨mb, h1, h2⟩ := hB
    exact ⟨mb, h1.keeps k, h2⟩
  · show A.depth + 1 < recursionLimit
    exact hroom
  · have old : ∀ b o, hp.get? b = some o → h'.get? b = some o := fun b o e => k' b o (Nat.ne_of_lt (Nat.lt_succ_of_lt (Heap.lt_size e))) (k b o e)
    have z : hp.objs.size + 1 + 1 ≤ dx := by
      first
        | (simpa only [Heap.size_push] using dn)
        | exact dn
        | (have q := dn; rw [Heap.size_push, Heap.size_push] at q; exact q)
    exact ⟨rfl, hq h' tk' (hp.objs.size + 1) dx ⟨old, Nat.le_succ _, ⟨_, _, hx, rfl, rfl, rfl, rfl⟩, Nat.le_trans (Nat.le_trans (Nat.le_succ _) (Nat.le_succ _)) z, dne, hns⟩⟩
end
end ExP
end PySem
namespace L2
open PySem PySem.Spec PyProof.Rows
theorem relO_part {v : V} {v' : Value} (r : RelV v v') (f : Str) : RelO (List.lookup f [(("part" : Str), v)]) (if f = "part" then some v' else none) := by
  by_cases hw : f = "part"
  · subst hw
    rw [if_pos rfl]
    have q : List.lookup ("part" : Str) [(("part" : Str), v)] = some v := by simp [List.lookup]
    rw [q]
    exact r
  · rw [if_neg hw]
    have qw : (f == ("part" : Str)) = false := by simpa using hw
    have q2 : List.lookup f [(("part" : Str), v)] = none := by simp [List.lookup, qw]
    rw [q2]
    trivial
def FmtV (v : V) : Prop := v = .non ∨ ∃ x : Str, v = .str x ∧ x.length ≤ 1000
section
variable {X : Cx} {C fI : Addr}
/-- BadNet(e) -/
def tMkPart (C : Addr) (ta : TA) : St → Hp → XK → Prop := fun σ H Q => ta σ H fun vs H1 => ∃ v, vs = [v] ∧ FmtV v ∧ ∀ d, H1 d = none → Q (.ref C) (some d) (upd H1 d (.xd [(("part" : Str), v)]))
theorem pmk_part {a : Expr} {ta : TA} {p pos : Pos} {k : Nat} (T : PySem.ExP.SupTxt X.prog X.K X.mg C fI) (hr : Room k X.A) (ha : PA X [a] ta) (hg : Gl X "BadNet" := by rfl)
    (he : starEach (a :: []) X.env = (false, eval a X.env) :: starEach [] X.env := by rfl) (hpl : (backTo pos (starEach [] X.env)).any (·.1) = false := by rfl) :
    PMk X (.Call (.Name "BadNet" p) [a] [] pos) (tMkPart C ta) := by
  intro pins s σ H Q I h
  refine wpAny_Call_Name_kw (ld_glob I hg T.mgC ?_)
  refine PySem.W.callWith_K (h₀ := X.base) I.ok.mod.kin T.kC (thn (ha.run pos pins s σ H _ I h) fun us s1 hh => ?_) he hpl
  obtain ⟨vs, H1, I1, r1, v, ev, hv, q1⟩ := hh
  subst ev
  refine ⟨I1.kIn, ?_⟩
  cases r1 with
  | cons rv rn =>
    rename_i v' us'
    cases rn
    show wpAny _ _ (call (.ref C) [v']) _ _ _
    have hlim := I1.nolimit
    have hv' : PySem.ExP.Fmt v' := by
      rcases hv with rfl | ⟨x, rfl, hx⟩
      · exact .inl rv
      · obtain ⟨t, rfl⟩ := rv
        exact .inr ⟨x, t, rfl, hx⟩
    have hG : s1.heap.Ns mainGlobals X.mg := I1.mod.glob.keeps I1.bk
    have hB : ∃ mb, s1.heap.Ns builtinsNs mb ∧ ∀ x : Str, x ≠ "__name__" → mb x = bootBuiltins x := by
      obtain ⟨mb, h1, h2⟩ := I1.mod.blt
      exact ⟨mb, h1.keeps I1.bk, h2⟩
    obtain ⟨hp, g, dr, tk, os⟩ := s1
    refine wpAny_call (PySem.ExP.sup_made T hv' I1.kIn hlim hG hB (by have := hr.dp; omega) fun h' tk' e d M => ?_)
    show MkP X pins σ Q (.ref e) ⟨h', g, dr, tk', os⟩
    obtain ⟨oe, fv, hoe, hc, hd, hdat, h1⟩ := M.obj
    have hns := M.ns
    obtain ⟨G', g1, g2⟩ := restrict h' fun b => decide (b ≠ e)
    have gk : ∀ b, b ≠ e → G'.get? b = h'.get? b := fun b hb => g1 b (decide_eq_true hb)
    have ge : G'.get? e = none := g2 e (by simp)
    have old : ∀ b o, hp.get? b = some o → G'.get? b = some o := fun b o q => (gk b (Nat.ne_of_lt (Nat.lt_of_lt_of_le (Heap.lt_size q) M.new))).trans (M.keep b o q)
    have ob : ObjOk X.prog X.w (upd H1 d (.xd [(("part" : Str), v)])) G' d (.xd [(("part" : Str), v)]) :=
      ⟨_, hns.at (fun o q => (gk d M.dne).trans q), fun f => relO_part rv f⟩
    have J : Inv X pins σ (upd H1 d (.xd [(("part" : Str), v)])) ⟨G', g, dr, tk', os⟩ := I1.laid (t' := tk') old M.dbig ob
    refine ⟨e, oe, fv, ⟨G', g, dr, tk', os⟩, _, .ref C, some d, rfl, J, fun b o q => ?_, ge, hoe, ⟨hc, hd⟩, hdat, h1, ?_, rfl, I1.bare, raises_own T.exC T.tyC, q1 d (I1.hok.fresh M.dbig)⟩
    · by_cases hb : b = e
      · have q' : G'.get? b = some o := q
        rw [hb, ge] at q'; cases q'
      · exact (gk b hb).symm.trans q
    · rw [upd_ne (Ne.symm M.dne)]
      exact I1.hok.fresh M.new
/-- raise BadNet(e) -/
def tRaisePart (C : Addr) (W : WX) (ta : TA) : TS := fun _ σ H => tMkPart C ta σ H fun cls d H' => W cls d σ H'
theorem ps_raisePart {a : Expr} {ta : TA} {W : WX} {p pos pos2 : Pos} {k : Nat} (hc : X.calm = true) (T : PySem.ExP.SupTxt X.prog X.K X.mg C fI) (hr : Room k X.A) (tk : Takes X W) (ha : PA X [a] ta) (hg : Gl X "BadNet" := by rfl)
    (he : starEach (a :: []) X.env = (false, eval a X.env) :: starEach [] X.env := by rfl) (hpl : (backTo pos (starEach [] X.env)).any (·.1) = false := by rfl) :
    PS X (.Raise (some (.Call (.Name "BadNet" p) [a] [] pos)) none pos2) (tRaisePart C W ta) := ps_raise hc tk (pmk_part T hr ha hg he hpl)
/-- error.part, error the exception that the suite holds (at a; its class cls, its dict d) -/
def tByPart (C : Addr) (a : Addr) (cls : Value) (d : Option Addr) (te : TE) : TE := fun σ H Q => te σ H fun x H1 => x = .ref a ∧ cls = .ref C ∧ ∃ (dd : Addr) (v : V), d = some dd ∧ H1 dd = some (.xd [(("part" : Str), v)]) ∧ Q v H1
theorem pe_byPart {a : Addr} {oe : Obj} {cls : Value} {d : Option Addr} {pn : List (Addr × Obj)} {e : Expr} {te : TE} {pos : Pos} (T : PySem.ExP.SupTxt X.prog X.K X.mg C fI) (hz : Zc cls d oe) (hf : ∃ vs, oe.data = .fields vs) (he : PE (X.suite a ((a, oe) :: pn)) e te)
    (hb : attributeBase e "part" X.env (eval e X.env) = eval e X.env := by rfl) :
    PE (X.suite a ((a, oe) :: pn)) (.Attribute e "part" pos) (tByPart C a cls d te) := by
  refine ⟨fun pins s σ H Q I h => ?_⟩
  refine attr_of hb (thn (he.run pins s σ H _ I h) fun u s1 hh => ?_)
  obtain ⟨x, H1, I1, rx, ex, ec, dd, v, ed, ea, q⟩ := hh
  subst ex
  obtain rfl : u = Value.ref a := rx
  subst ec
  subst ed
  obtain ⟨ha, _⟩ := I1.pin (a, oe) (List.mem_append_left _ List.mem_cons_self)
  obtain ⟨vs, hd⟩ := hf
  have hx : ObjOk X.prog X.w H1 s1.heap dd (.xd [(("part" : Str), v)]) := I1.hok dd _ ea
  obtain ⟨mA, hns, hr⟩ := hx
  obtain ⟨od, ho, hl⟩ := lookIn_ns hns
  have l : List.lookup ("part" : Str) [(("part" : Str), v)] = some v := by simp [List.lookup]
  obtain ⟨u, hu, ru⟩ := RelO.some_of (v := v) (o := mA "part") (by rw [← l]; exact hr "part")
  have J : PySem.W.InstAt s1.heap a oe C (some od) := ⟨ha, hz.1, by unfold PySem.W.notCls; rw [hd] <;> rfl, by rw [hz.2]; exact ho⟩
  exact HandSPX.exc_get I1.kIn J T.ga T.gg T.exC (PySem.W.findObj_own T.hdC T.noP rfl (by rw [hl, hu])) (handed_of ru) ⟨v, H1, I1.tok _, ru, q⟩
end
end L2

set_option Elab.async false
set_option linter.all false
set_option maxRecDepth 100000
set_option maxHeartbeats 4000000
namespace K01
open PySem L2 Dl PySem.Spec PyProof.Rows
open Evl (Ex fresh_back sz_of sz_lt ex_l ex_t sq_of st_of)
abbrev sNI : Stmt := inClass (top 26) 0
/-- the parts of a net -/
structure Pt where
  h : PyData
  t : PyData
  k : PyData
  e : PyData
  s : PyData
  c : PyData
  o : PyData
def Pt.list (p : Pt) : List PyData := [p.h, p.t, p.k, p.e, p.s, p.c, p.o]
def netN : List Str := ["hosts", "ties", "weak", "endless", "split", "cry", "hold"]
def Pt.fs (p : Pt) : List (Str × PyData) := [("hosts", p.h), ("ties", p.t), ("weak", p.k), ("endless", p.e), ("split", p.s), ("cry", p.c), ("hold", p.o)]
def net (p : Pt) : D := .obj 0 p.fs
def wrongP (p : Pt) : Option Str := match shapeP p.h p.t p.k with
  | some x => some x
  | none => ruleP p.e p.s p.c p.o
/-- what the written part says of Net -/
structure NetC (W : Wd) (mg : Str → Option Value) : Prop where
  cl : Cls W.K (W.cl 0)
  n1 : NoAttr W.K (W.cl 0) "hosts"
  n2 : NoAttr W.K (W.cl 0) "ties"
  n3 : NoAttr W.K (W.cl 0) "weak"
  n4 : NoAttr W.K (W.cl 0) "endless"
  n5 : NoAttr W.K (W.cl 0) "split"
  n6 : NoAttr W.K (W.cl 0) "cry"
  n7 : NoAttr W.K (W.cl 0) "hold"
  g : mg "Net" = some (.ref (W.cl 0))
/-- Net.__init__: the fields, or an error BadNet of the class at CB -/
def spNet (W : Wd) (CB : Addr) : Sp := fun vs H Q E => ∃ (P H0 : Hp) (x dx : Addr) (p : Pt) (ws : List V), H = upd (upd H0 dx (.own x)) x (.ins (W.cl 0) dx []) ∧ H0 x = none ∧ H0 dx = none ∧ dx ≠ x ∧ Ex P H0 ∧ vs = .ref x :: ws ∧ RelA W P ws (p.list.map D.py) ∧
  (wrongP p = none → ∀ P' H', Step P H0 P' H' → RelD W P' (.ref x) (net p) → Q .non H') ∧
  (∀ m, wrongP p = some m → ∀ P' H' d, Step P H0 P' H' → H' d = some (.xd [(("part" : Str), .str m)]) → E (.ref CB) (some d) H')
abbrev NNI : List Str := ["self", "hosts", "ties", "weak", "endless", "split", "cry", "hold", "part"]
theorem words_len {h t k e s c o : PyData} {m : Str} (hw : wrongP ⟨h, t, k, e, s, c, o⟩ = some m) : m.length ≤ 1000 := by
  have key : m ∈ (["hosts", "ties", "weak", "endless", "split", "cry", "hold"] : List Str) := by
    unfold wrongP at hw
    split at hw
    · rename_i x hx
      cases hw
      unfold shapeP at hx
      repeat' split at hx
      all_goals first
        | (cases hx; done)
        | (cases hx; decide)
    · unfold ruleP at hw
      repeat' split at hw
      all_goals first
        | (cases hw; done)
        | (cases hw; decide)
  clear hw
  revert key
  revert m
  decide
section
variable {P : Program} {w : World} {W : Wd} {mg : Str → Option Value} {base : Heap}
theorem scNI : FnScope NNI ["self", "hosts", "ties", "weak", "endless", "split", "cry", "hold"] (defScope sNI) := ⟨rfl, rfl, rfl, by decide +kernel, rfl, by decide +kernel, by decide +kernel⟩
theorem okNI {f CB fB : Addr} {fd : FuncData} {kws : List (Str × V)} (F : FunD W.K "__init__" "Net.__init__" (defArgs sNI) (defBody sNI) (defScope sNI) [] kws f fd) (T : NetC W mg) (B : PySem.ExP.SupTxt P W.K mg CB fB)
    (C24 : CD P w W mg base "wrong_rule" 3 ["endless", "split", "cry", "hold"] F24) (C25 : CD P w W mg base "wrong_shape" 5 ["hosts", "ties", "weak"] F25) :
    FnOk P w W.K mg base (L2.CX P w) 6 f fd ["self", "hosts", "ties", "weak", "endless", "split", "cry", "hold"] (spNet W CB) := by
  refine F.ok scNI (fun vs H Q E h => ?_) (fun cdv A outer s H vs Q E hr h => ?_)
  · obtain ⟨_, _, x, dx, p, ws, _, _, _, _, _, rfl, r, _⟩ := h
    rw [List.length_cons, Paired.length r]
    rfl
  · obtain ⟨P0, H0, x, dx, p, ws, rfl, hx, hdx, hne, e0, rfl, r, hok, hbad⟩ := h
    refine ⟨_, pss_cons (ps_set (i := 8) scNI.nd rfl (.inl rfl) (pe_cd C25 hr (pa_cons (pv 1) (pa_cons (pv 2) (pa_cons (pv 3) pa_nil)))))
      (pss_cons (ps_if (pt_cmpR op_isN (pv 8) pe_non (nomark _)) (pss_one (ps_set (i := 8) scNI.nd rfl (.inl rfl) (pe_cd C24 (hr.mono (by decide)) (pa_cons (pv 4) (pa_cons (pv 5) (pa_cons (pv 6) (pa_cons (pv 7) pa_nil))))))) pss_nil)
      (pss_cons (ps_if (pt_cmpR op_notN (pv 8) pe_non (nomark _)) (pss_one (ps_raisePart rfl B hr (takes_of rfl rfl rfl rfl) (pa_cons (pv 8) pa_nil))) pss_nil)
      (pss_cons (ps_fld (pv 0) (pv 1) rfl) (pss_cons (ps_fld (pv 0) (pv 2) rfl) (pss_cons (ps_fld (pv 0) (pv 3) rfl) (pss_cons (ps_fld (pv 0) (pv 4) rfl) (pss_cons (ps_fld (pv 0) (pv 5) rfl)
      (pss_cons (ps_fld (pv 0) (pv 6) rfl) (pss_one (ps_fld (pv 0) (pv 7) rfl)))))))))), ?_⟩
    obtain ⟨v1, v2, v3, v4, v5, v6, v7, rfl, r1, r2, r3, r4, r5, r6, r7⟩ : ∃ v1 v2 v3 v4 v5 v6 v7, ws = [v1, v2, v3, v4, v5, v6, v7] ∧ Dp W.K P0 v1 p.h ∧ Dp W.K P0 v2 p.t ∧ Dp W.K P0 v3 p.k ∧ Dp W.K P0 v4 p.e ∧ Dp W.K P0 v5 p.s ∧ Dp W.K P0 v6 p.c ∧ Dp W.K P0 v7 p.o := by
      cases r with | cons r1 r => cases r with | cons r2 r => cases r with | cons r3 r => cases r with | cons r4 r => cases r with | cons r5 r => cases r with | cons r6 r => cases r with | cons r7 r =>
        cases r
        exact ⟨_, _, _, _, _, _, _, rfl, r1, r2, r3, r4, r5, r6, r7⟩
    have nPx : P0 x = none := fresh_back e0 hx
    have eS : Ex P0 (upd (upd H0 dx (.own x)) x (.ins (W.cl 0) dx [])) := fun a o q => by
      rw [upd_ne (ne_of_none (e0 a o q) hx), upd_ne (ne_of_none (e0 a o q) hdx)]
      exact e0 a o q
    have eH : Ex H0 (upd (upd H0 dx (.own x)) x (.ins (W.cl 0) dx [])) := fun a o q => by
      rw [upd_ne (ne_of_none q hx), upd_ne (ne_of_none q hdx)]
      exact q
    let ds0 : DS := [none, some (.py p.h), some (.py p.t), some (.py p.k), some (.py p.e), some (.py p.s), some (.py p.c), some (.py p.o), none]
    have env0 : EnvD W ds0 (start NNI [.ref x, v1, v2, v3, v4, v5, v6, v7]) P0 := by
      refine ⟨rfl, fun i d q => ?_⟩
      match i, q with
      | 1, q => cases q; exact ⟨v1, rfl, r1⟩
      | 2, q => cases q; exact ⟨v2, rfl, r2⟩
      | 3, q => cases q; exact ⟨v3, rfl, r3⟩
      | 4, q => cases q; exact ⟨v4, rfl, r4⟩
      | 5, q => cases q; exact ⟨v5, rfl, r5⟩
      | 6, q => cases q; exact ⟨v6, rfl, r6⟩
      | 7, q => cases q; exact ⟨v7, rfl, r7⟩
      | 8, q => cases q
      | n + 9, q => cases q
    -- part = wrong_shape(..)
    refine (ed_call (W := W) (z := .py (oS (shapeP p.h p.t p.k))) (ds := ds0) (ea_cons (ed_var rfl) (ea_cons (ed_var rfl) (ea_cons (ed_var rfl) ea_nil))) rfl) _ P0 _ eS env0 _ fun u1 P1 H1 s1 q1 => ?_
    have env1 : EnvD W (ds0.set 8 (some (.py (oS (shapeP p.h p.t p.k))))) (start NNI [.ref x, v1, v2, v3, v4, v5, v6, v7, u1]) P1 := (env0.mono s1.pp).set 8 q1
    -- what stands behind both tests: the part, P2, H2
    have fin : ∀ (u : V) (P2 H2 : Hp), Step P0 (upd (upd H0 dx (.own x)) x (.ins (W.cl 0) dx [])) P2 H2 → Dp W.K P2 u (oS (wrongP p)) → 
        (tSeq (tIfS (tTest (tOp (fun x y H Q => y = .non ∧ Q (.bl (!decide (x = .non))) H) (tVar 8) (tC .non))) (tRaisePart CB (fun cls d _ H => E cls d H) (tCons (tVar 8) tNil)) tNext)
          (tSeq (sFld W.K (tVar 0) (tVar 1) "hosts") (tSeq (sFld W.K (tVar 0) (tVar 2) "ties") (tSeq (sFld W.K (tVar 0) (tVar 3) "weak") (tSeq (sFld W.K (tVar 0) (tVar 4) "endless") (tSeq (sFld W.K (tVar 0) (tVar 5) "split")
          (tSeq (sFld W.K (tVar 0) (tVar 6) "cry") (sFld W.K (tVar 0) (tVar 7) "hold")))))))) { nx := fun _ H' => Q .non H', rt := Q } (start NNI [.ref x, v1, v2, v3, v4, v5, v6, v7, u]) H2 := by
      intro u P2 H2 s2 q2
      have hxi : H2 x = some (.ins (W.cl 0) dx []) := s2.hh x _ upd_same
      refine ⟨u, rfl, rfl, _, rfl, ?_⟩
      cases hw : wrongP p with
      | some m =>
        rw [hw] at q2
        cases q2
        refine if_pos (c := (!decide (V.str m = V.non)) = true) (by simp) ▸ ?_
        refine ⟨_, rfl, _, rfl, .inr ⟨m, rfl, words_len hw⟩, fun d hd => ?_⟩
        have st := Step.new (o := .xd [(("part" : Str), V.str m)]) s2.ph hd
        have st2 := s2.trans st
        exact hbad m hw _ _ d ⟨st2.pp, st2.ph, eH.trans st2.hh, fun a o q => st2.nw a o (eH a o q), st2.nt⟩ upd_same
      | none =>
        rw [hw] at q2
        cases q2
        show (if (!decide (V.non = V.non)) = true then _ else _)
        rw [if_neg (by simp)]
        -- the stores
        refine ⟨v1, rfl, _, rfl, x, _, dx, _, rfl, hxi, T.cl, T.n1, by show 0 < 1000; decide, ?_⟩
        refine ⟨v2, rfl, _, rfl, x, _, dx, _, rfl, upd_same, T.cl, T.n2, by show 1 < 1000; decide, ?_⟩
        refine ⟨v3, rfl, _, rfl, x, _, dx, _, rfl, upd_same, T.cl, T.n3, by show 2 < 1000; decide, ?_⟩
        refine ⟨v4, rfl, _, rfl, x, _, dx, _, rfl, upd_same, T.cl, T.n4, by show 3 < 1000; decide, ?_⟩
        refine ⟨v5, rfl, _, rfl, x, _, dx, _, rfl, upd_same, T.cl, T.n5, by show 4 < 1000; decide, ?_⟩
        refine ⟨v6, rfl, _, rfl, x, _, dx, _, rfl, upd_same, T.cl, T.n6, by show 5 < 1000; decide, ?_⟩
        refine ⟨v7, rfl, _, rfl, x, _, dx, _, rfl, upd_same, T.cl, T.n7, by show 6 < 1000; decide, ?_⟩
        rw [upd_upd, upd_upd, upd_upd, upd_upd, upd_upd, upd_upd]
        have ef : putF "hold" v7 (putF "cry" v6 (putF "split" v5 (putF "endless" v4 (putF "weak" v3 (putF "ties" v2 (putF "hosts" v1 [])))))) =
          [(("hosts" : Str), v1), ("ties", v2), ("weak", v3), ("endless", v4), ("split", v5), ("cry", v6), ("hold", v7)] := by rfl
        rw [ef]
        have nP2 : P2 x = none := (s2.nw x _ upd_same).trans nPx
        refine hok hw (upd P2 x (.ins (W.cl 0) dx [(("hosts" : Str), v1), ("ties", v2), ("weak", v3), ("endless", v4), ("split", v5), ("cry", v6), ("hold", v7)])) _ ⟨s2.pp.trans (Ex.new nP2), fun a o q => ?_, fun a o q => ?_, fun a o q => ?_, fun a ps q => ?_⟩ ?_
        · by_cases ha : a = x
          · subst ha
            rw [upd_same] at q ⊢
            exact q
          · rw [upd_ne ha] at q ⊢
            exact s2.ph a o q
        · rw [upd_ne (ne_of_none q hx)]
          exact s2.hh a o (eH a o q)
        · rw [upd_ne (ne_of_none q hx)]
          exact s2.nw a o (eH a o q)
        · by_cases ha : a = x
          · subst ha
            rw [upd_same] at q
            cases q
          · rw [upd_ne ha] at q
            exact s2.nt a ps q
        · have en := s2.pp.trans (Ex.new (o := HO.ins (W.cl 0) dx [(("hosts" : Str), v1), ("ties", v2), ("weak", v3), ("endless", v4), ("split", v5), ("cry", v6), ("hold", v7)]) nP2)
          exact ⟨x, dx, _, rfl, upd_same, .cons ⟨rfl, dp_mono en r1⟩ (.cons ⟨rfl, dp_mono en r2⟩ (.cons ⟨rfl, dp_mono en r3⟩ (.cons ⟨rfl, dp_mono en r4⟩ (.cons ⟨rfl, dp_mono en r5⟩ (.cons ⟨rfl, dp_mono en r6⟩ (.cons ⟨rfl, dp_mono en r7⟩ .nil))))))⟩
    -- if part is None
    refine (et_test (ed_op (ed_var (i := 8) rfl) ed_non rd_isN)) _ P1 H1 s1.ph env1 _ fun P2 H2 s2 => ?_
    cases hs : shapeP p.h p.t p.k with
    | some m =>
      rw [if_neg (show ¬ (isNon (.py (oS (some m))) = true) from fun q => by cases q)]
      have hw : wrongP p = some m := by unfold wrongP; rw [hs]
      exact fin u1 P2 H2 (s1.trans s2) (by rw [hw, ← hs]; exact dp_mono s2.pp q1)
    | none =>
      rw [if_pos (show isNon (.py (oS none)) = true from rfl)]
      refine (ed_call (W := W) (z := .py (oS (ruleP p.e p.s p.c p.o))) (ea_cons (ed_var (i := 4) rfl) (ea_cons (ed_var (i := 5) rfl) (ea_cons (ed_var (i := 6) rfl) (ea_cons (ed_var (i := 7) rfl) ea_nil)))) rfl) _ P2 H2 s2.ph (env1.mono s2.pp) _ fun u3 P3 H3 s3 q3 => ?_
      have hw : wrongP p = ruleP p.e p.s p.c p.o := by unfold wrongP; rw [hs]
      exact fin u3 P3 H3 ((s1.trans s2).trans s3) (by rw [hw]; exact q3)
end
end K01

set_option Elab.async false
set_option linter.all false
set_option maxRecDepth 100000
set_option maxHeartbeats 4000000
namespace K01
open PySem L2 Dl PySem.Spec PyProof.Rows
open Evl (Ex fresh_back sz_of sz_lt ex_l ex_t sq_of st_of)
/-! ### nets with all parts right -/
def tieD (t : Int × Int) : PyData := .tuple [.int t.1, .int t.2]
structure Nt where
  n : Int
  ts : List (Int × Int)
  ks : List Int
  e : Int
  s : Str
  c : Str
  o : Int
def Nt.pt (m : Nt) : Pt := ⟨.int m.n, .tuple (m.ts.map tieD), .tuple (m.ks.map PyData.int), .int m.e, .str m.s, .str m.c, .int m.o⟩
structure Nt.Ok (m : Nt) : Prop where
  n0 : 2 ≤ m.n
  n1 : m.n ≤ 4
  t0 : 1 ≤ m.ts.length
  t1 : m.ts.length ≤ 5
  k1 : m.ks.length ≤ 3
  s1 : m.s ∈ splits
  c1 : m.c ∈ cries
theorem within_iff {a : PyData} {l m : Int} (h : ¬ (within a l m = false)) : ∃ i, a = .int i ∧ l ≤ i ∧ i ≤ m := by
  cases q : within a l m with
  | true => exact within_int q
  | false => exact absurd q h
theorem wordIn_iff {a : PyData} {ws : List Str} (h : ¬ (wordIn a ws = false)) : ∃ x, a = .str x ∧ x ∈ ws := by
  cases a with
  | str x =>
    refine ⟨x, rfl, ?_⟩
    simp [wordIn] at h
    simpa using h
  | _ => exact absurd rfl h
theorem ties_list {n : Int} : ∀ {l : List PyData}, l.all (tieP · n) = true → ∃ ts : List (Int × Int), l = ts.map tieD
  | [], _ => ⟨[], rfl⟩
  | a :: r, h => by
    rw [List.all_cons, Bool.and_eq_true] at h
    obtain ⟨ts, e⟩ := ties_list h.2
    obtain ⟨i, j, e2⟩ := tie_ints h.1
    exact ⟨(i, j) :: ts, by rw [e, e2]; rfl⟩
theorem weak_list {n m : Int} : ∀ {l : List PyData}, l.all (within · n m) = true → ∃ ks : List Int, l = ks.map PyData.int
  | [], _ => ⟨[], rfl⟩
  | a :: r, h => by
    rw [List.all_cons, Bool.and_eq_true] at h
    obtain ⟨ts, e⟩ := weak_list h.2
    obtain ⟨i, e2, _⟩ := within_int h.1
    exact ⟨i :: ts, by rw [e, e2]; rfl⟩
theorem valid_nt {p : Pt} (h : wrongP p = none) : ∃ m : Nt, p = m.pt ∧ m.Ok := by
  obtain ⟨ph, pt, pk, pe, ps, pc, po⟩ := p
  unfold wrongP at h
  split at h
  · cases h
  · rename_i hs
    unfold shapeP at hs
    split at hs
    · cases hs
    · rename_i h1
      split at hs
      · cases hs
      · rename_i h2
        split at hs
        · cases hs
        · rename_i h3
          unfold ruleP at h
          split at h
          · cases h
          · rename_i h4
            split at h
            · cases h
            · rename_i h5
              split at h
              · cases h
              · rename_i h6
                split at h
                · cases h
                · rename_i h7
                  obtain ⟨n, rfl, n0, n1⟩ := within_iff h1
                  obtain ⟨e, rfl, _⟩ := within_iff h4
                  obtain ⟨s, rfl, s1⟩ := wordIn_iff h5
                  obtain ⟨c, rfl, c1⟩ := wordIn_iff h6
                  obtain ⟨o, rfl, _⟩ := within_iff h7
                  obtain ⟨ts, rfl, t0, t1⟩ : ∃ ts : List (Int × Int), pt = .tuple (ts.map tieD) ∧ 1 ≤ ts.length ∧ ts.length ≤ 5 := by
                    cases pt with
                    | tuple l =>
                      simp only [tiesP, hostsOf, Bool.not_eq_false, Bool.and_eq_true, decide_eq_true_eq] at h2
                      obtain ⟨⟨a, b⟩, c, _⟩ := h2
                      obtain ⟨ts, rfl⟩ := ties_list c
                      rw [List.length_map] at a b
                      exact ⟨ts, rfl, by omega, by omega⟩
                    | _ => exact absurd rfl h2
                  obtain ⟨ks, rfl, k1⟩ : ∃ ks : List Int, pk = .tuple (ks.map PyData.int) ∧ ks.length ≤ 3 := by
                    cases pk with
                    | tuple l =>
                      simp only [weakP, Bool.not_eq_false, Bool.and_eq_true, decide_eq_true_eq] at h3
                      obtain ⟨a, c, _⟩ := h3
                      obtain ⟨ts, rfl⟩ := weak_list c
                      rw [List.length_map] at a
                      exact ⟨ts, rfl, by omega⟩
                    | _ => exact absurd rfl h3
                  exact ⟨⟨n, ts, ks, e, s, c, o⟩, rfl, ⟨n0, n1, t0, t1, k1, s1, c1⟩⟩
/-! shaped -/
theorem lay_ints : ∀ l : List Int, PyData.canLayAll0 (l.map PyData.int) = true
  | [] => rfl
  | i :: r => by rw [List.map_cons, PyData.canLayAll0, PyData.canLay0, lay_ints r]; rfl
theorem dep_ints : ∀ l : List Int, PyData.depthAll (l.map PyData.int) ≤ 1
  | [] => by rw [List.map_nil, PyData.depthAll]; omega
  | i :: r => by
    have := dep_ints r
    rw [List.map_cons, PyData.depthAll, PyData.depth]
    omega
theorem sh_ints (l : List Int) : SeqAt.shaped (.tuple (l.map PyData.int)) = true := by
  unfold SeqAt.shaped
  rw [PyData.canLay0, lay_ints, PyData.depth]
  have := dep_ints l
  simp
  omega
theorem sh_int (i : Int) : SeqAt.shaped (.int i) = true := by
  unfold SeqAt.shaped
  rw [PyData.canLay0, PyData.depth]
  simp
theorem lay_ties : ∀ l : List (Int × Int), PyData.canLayAll0 (l.map tieD) = true
  | [] => rfl
  | i :: r => by rw [List.map_cons, PyData.canLayAll0, lay_ties r]; rfl
theorem dep_ties : ∀ l : List (Int × Int), PyData.depthAll (l.map tieD) ≤ 3
  | [] => by rw [List.map_nil, PyData.depthAll]; omega
  | i :: r => by
    have := dep_ties r
    rw [List.map_cons, PyData.depthAll]
    have : PyData.depth (tieD i) ≤ 3 := by
      unfold tieD
      simp only [PyData.depth, PyData.depthAll]
      omega
    omega
theorem sh_ties (l : List (Int × Int)) : SeqAt.shaped (.tuple (l.map tieD)) = true := by
  unfold SeqAt.shaped
  rw [PyData.canLay0, lay_ties, PyData.depth]
  have := dep_ties l
  simp
  omega
theorem sh_words {x : Str} {ws : List Str} (h : x ∈ ws) (hw : ws.all PyData.strOk = true) : SeqAt.shaped (.str x) = true := by
  unfold SeqAt.shaped
  rw [PyData.canLay0, List.all_eq_true.mp hw x h, PyData.depth]
  simp
theorem sh_split {x : Str} (h : x ∈ splits) : SeqAt.shaped (.str x) = true := sh_words h (by decide +kernel)
theorem sh_cry {x : Str} (h : x ∈ cries) : SeqAt.shaped (.str x) = true := sh_words h (by decide +kernel)
end K01

set_option Elab.async false
set_option linter.all false
set_option maxRecDepth 100000
set_option maxHeartbeats 4000000
namespace K01
open PySem L2 Dl PySem.Spec PyProof.Rows
open Evl (Ex fresh_back sz_of sz_lt ex_l ex_t sq_of st_of)
abbrev netP : List Str := ["self", "hosts", "ties", "weak", "endless", "split", "cry", "hold"]
abbrev kwN : List Str := ["weak", "endless", "split", "cry", "hold"]
/-- Net as its callers know it -/
structure NetF (P : Program) (w : World) (W : Wd) (mg : Str → Option Value) (base : Heap) : Prop where
  c : NetC W mg
  ini : ∃ (f : Addr) (fd : FuncData) (T : Addr) (ds : List Value) (g : List Value → List Value → List Value), FnOk P w W.K mg base (L2.CX P w) 6 f fd netP (spNet W (W.cl 1)) ∧ Mk W.K (W.cl 0) f ∧ Vals [V.ref T, .int 4, .str "plain", .str "still", .int 0] ds ∧ Binds W.K fd netP ds ∧
    (∀ P0 : Hp, Dp W.K P0 (.ref T) (.tuple [])) ∧ KBn W.K fd netP 3 kwN g (fun vs zs => vs ++ zs)
def netR (p : Pt) : Res := match wrongP p with
  | none => .ok (net p)
  | some m => .error (.own 1 "part" (.str m))
def dfl (h t : PyData) : Pt := ⟨h, t, .tuple [], .int 4, .str "plain", .str "still", .int 0⟩
theorem RelA.app {W : Wd} {P : Hp} : ∀ {vs ws : List V} {a b : List D}, RelA W P vs a → RelA W P ws b → RelA W P (vs ++ ws) (a ++ b)
  | _, _, _, _, .nil, h => h
  | _, _, _, _, .cons a r, h => .cons a (RelA.app r h)
section
variable {W : Wd} {E : XK} {ds : DS} {t tk : TA}
theorem net_run {P1 H1 : Hp} {p : Pt} {ws : List V} {x dx : Addr} {Q : VK} (e : Ex P1 H1) (hx : H1 x = none) (hdx : H1 dx = none) (hne : dx ≠ x) (r : RelA W P1 ws (p.list.map D.py))
    (q : ∀ d, netR p = .ok d → ∀ v P' H', Step P1 H1 P' H' → RelD W P' v d → Q v H') (xx : ∀ er, netR p = .error er → ∀ cls dd P' H', Step P1 H1 P' H' → IsEr W P' H' cls dd er → E cls dd H') :
    spNet W (W.cl 1) (.ref x :: ws) (upd (upd H1 dx (.own x)) x (.ins (W.cl 0) dx [])) (fun v H3 => v = .non ∧ Q (.ref x) H3) E := by
  refine ⟨P1, H1, x, dx, p, ws, rfl, hx, hdx, hne, e, rfl, r, fun hw P' H' s r' => ⟨rfl, q (net p) (by unfold netR; rw [hw]) _ P' H' s r'⟩, fun m hw P' H' d s hd => xx (.own 1 "part" (.str m)) (by unfold netR; rw [hw]) _ _ P' H' s ⟨rfl, d, .str m, rfl, hd, .str m⟩⟩
/-- Net(h, t, weak = .., ..) -/
theorem ex_netK {h tt k e s c o : PyData} (ha : EA W t ds [.py h, .py tt]) (hk : EA W tk ds [.py k, .py e, .py s, .py c, .py o]) : EX W E (tMakeK (W.cl 0) 2 5 (spNet W (W.cl 1)) (fun vs zs => vs ++ zs) E t tk) ds (netR ⟨h, tt, k, e, s, c, o⟩) := fun σ P H eh env Q q x =>
  ha σ P H eh env _ fun vs P1 H1 s1 r1 => hk σ P1 H1 s1.ph (env.mono s1.pp) _ fun zs P2 H2 s2 r2 => by
    refine ⟨Paired.length r1, Paired.length r2, fun y dy hy hdy hne => net_run (p := ⟨h, tt, k, e, s, c, o⟩) s2.ph hy hdy hne (RelA.app (r1.mono s2.pp) r2) (fun d hd v P' H' s' r' => q d hd v P' H' ((s1.trans s2).trans s') r') fun er he cls dd P' H' s' r' => x er he cls dd P' H' ((s1.trans s2).trans s') r'⟩
/-- Net(h, t) -/
theorem ex_net2 {T : Addr} {h tt : PyData} (hT : ∀ P0 : Hp, Dp W.K P0 (.ref T) (.tuple [])) (ha : EA W t ds [.py h, .py tt]) : EX W E (tMake (W.cl 0) (spNet W (W.cl 1)) [V.ref T, .int 4, .str "plain", .str "still", .int 0] E t) ds (netR (dfl h tt)) := fun σ P H e env Q q x =>
  ha σ P H e env _ fun vs P1 H1 s1 r1 => fun y dy hy hdy hne => by
    refine net_run (p := dfl h tt) s1.ph hy hdy hne (RelA.app r1 (.cons (hT P1) (.cons (.int 4) (.cons (.str _) (.cons (.str _) (.cons (.int 0) .nil)))))) (fun d hd v P' H' s' r' => q d hd v P' H' (s1.trans s') r') fun er he cls dd P' H' s' r' => x er he cls dd P' H' (s1.trans s') r'
end
section
variable {X : Cx} {W : Wd} {k : Nat} {p pos : Pos} {e : Expr} {es : List Expr} {kws : List Keyword} {t tk : TA} {E : XK}
theorem pe_netK (N : NetF X.prog X.w W X.mg X.base) (hr : Room 7 X.A) (hx : Passes (L2.CX X.prog X.w) X E) (ha : PA X (e :: es) t) (hkw : PK X kws tk) (hK : X.K = W.K := by rfl) (hg : Gl X "Net" := by rfl)
    (hall : (backToKw pos (keywordEach kws X.env)).all (·.1.isSome) = true := by rfl) (hks : (backToKw pos (keywordEach kws X.env)).filterMap (·.1) = kwN := by rfl)
    (he : starEach (e :: es) X.env = (false, eval e X.env) :: starEach es X.env := by rfl) (hpl : ((backTo pos (starEach (e :: es) X.env)).any (·.1) || (backToKw pos (keywordEach kws X.env)).any (·.1.isNone)) = false := by rfl) :
    PE X (.Call (.Name "Net" p) (e :: es) kws pos) (tMakeK (W.cl 0) 2 5 (spNet W (W.cl 1)) (fun vs zs => vs ++ zs) E t tk) := by
  obtain ⟨f, fd, T, ds, g, h1, h2, h3, h4, h5, h6⟩ := N.ini
  have hm := N.c.g
  rw [← hK] at h1 h2 h4 h6
  exact pe_makeK (n := 2) h2 h1 hr hg hm h6 hx ha hkw hall hks (by decide) he hpl
theorem pe_net2 (N : NetF X.prog X.w W X.mg X.base) (hr : Room 7 X.A) (hx : Passes (L2.CX X.prog X.w) X E) (ha : PA X (e :: es) t) (hK : X.K = W.K := by rfl) (hg : Gl X "Net" := by rfl)
    (he : starEach (e :: es) X.env = (false, eval e X.env) :: starEach es X.env := by rfl) (hpl : (backTo pos (starEach es X.env)).any (·.1) = false := by rfl) :
    ∃ T, (∀ P0 : Hp, Dp W.K P0 (.ref T) (.tuple [])) ∧ PE X (.Call (.Name "Net" p) (e :: es) [] pos) (tMake (W.cl 0) (spNet W (W.cl 1)) [V.ref T, .int 4, .str "plain", .str "still", .int 0] E t) := by
  obtain ⟨f, fd, T, ds, g, h1, h2, h3, h4, h5, h6⟩ := N.ini
  have hm := N.c.g
  rw [← hK] at h1 h2 h4
  exact ⟨T, h5, pe_make h2 h1 hr hg hm h4 h3 hx ha (by decide) he hpl⟩
end
/-! ### == -/
abbrev sEq : Stmt := inClass (top 26) 1
def eqP (p q : Pt) : Bool := p.h.eqv q.h && (p.t.eqv q.t && (p.k.eqv q.k && (p.e.eqv q.e && (p.s.eqv q.s && (p.c.eqv q.c && p.o.eqv q.o)))))
def REq (l : List D) (o : Res) : Prop := (∃ p q : Nt, p.Ok ∧ q.Ok ∧ l = [net p.pt, net q.pt] ∧ o = .ok (pB (eqP p.pt q.pt))) ∨ (∃ (p : Nt) (i : Int), l = [net p.pt, pI i] ∧ o = .ok (pB false))
/-- what isinstance asks of Net -/
structure NetI (W : Wd) (mg : Str → Option Value) : Prop where
  ca : PySem.W.findIn W.K (.ref (W.cl 0)) "__class__" = some (some (.builtin "object.__class__"))
  cn : PySem.W.specialIn W.K (.builtin "object.__class__") "__get__" = some (some (.builtin "getset_descriptor.__get__"))
  ct : PySem.W.takesIn W.K (.builtin "object.__class__") = some true
  cm : PySem.W.mroIn W.K (W.cl 0) (.type "object") = some true
  k1 : PySem.W.kitOne W.K (.ref (W.cl 0)) (.ref (W.cl 0)) = some true
  k0 : PySem.W.kitOne W.K (.type "int") (.ref (W.cl 0)) = some false
theorem scEq : FnScope ["self", "other"] ["self", "other"] (defScope sEq) := ⟨rfl, rfl, rfl, by decide +kernel, rfl, by decide +kernel, by decide +kernel⟩
section
variable {P : Program} {w : World} {W : Wd} {mg : Str → Option Value} {base : Heap}
theorem net_fs {p : Nt} : net p.pt = .obj 0 p.pt.fs := rfl
theorem okEq {f : Addr} {fd : FuncData} (F : Fun W.K "__eq__" "Net.__eq__" sEq f fd) (T : Blt mg) (N : NetC W mg) (NI : NetI W mg) :
    FnOk P w W.K mg base (L2.CX P w) 1 f fd ["self", "other"] (spR W REq) := by
  refine okX F scEq (fun l o h => ?_) (fun cdv A outer s H E hr l o h => ?_)
  · rcases h with ⟨p, q, _, _, rfl, _⟩ | ⟨p, i, rfl, _⟩ <;> rfl
  · have hu : (A.deeper (envOfC "Net.__eq__" (defScope sEq) s.heap.objs.size f cdv)).units + 64 < cLine := by have := hr.un; omega
    refine ⟨_, pss_one (ps_ret (pe_and (pe_callB call_isi (by rfl) T.isi (by decide +kernel) (pa_cons (pv 1) (pa_cons (pe_glob (v := .ref (W.cl 0)) rfl N.g rfl) pa_nil)))
      (pe_and (pe_cmpR (op_eqD hu) (pe_fld (pv 0) rfl) (pe_fld (pv 1) rfl) (nomark _))
      (pe_and (pe_cmpR (op_eqD hu) (pe_fld (pv 0) rfl) (pe_fld (pv 1) rfl) (nomark _))
      (pe_and (pe_cmpR (op_eqD hu) (pe_fld (pv 0) rfl) (pe_fld (pv 1) rfl) (nomark _))
      (pe_and (pe_cmpR (op_eqD hu) (pe_fld (pv 0) rfl) (pe_fld (pv 1) rfl) (nomark _))
      (pe_and (pe_cmpR (op_eqD hu) (pe_fld (pv 0) rfl) (pe_fld (pv 1) rfl) (nomark _))
      (pe_and (pe_cmpR (op_eqD hu) (pe_fld (pv 0) rfl) (pe_fld (pv 1) rfl) (nomark _))
      (pe_one (pe_cmpR (op_eqD hu) (pe_fld (pv 0) rfl) (pe_fld (pv 1) rfl) (nomark _))))))))))), ?_⟩
    have ecl : ED W (tC (.ref (W.cl 0))) (startD ["self", "other"] l) (.cls 0) := ed_c fun _ => rfl
    rcases h with ⟨p, q, hp, hq, rfl, rfl⟩ | ⟨p, i, rfl, rfl⟩
    · refine (sd_ret ?_).sx
      have isi : RDA W (rIsi W.K) [net q.pt, .cls 0] (pB true) := fun P H vs e r Q q => by
        cases r with
        | cons r1 r2 => cases r2 with
          | cons r2 r3 =>
            cases r3
            cases r2
            obtain ⟨a, dx, gs, rfl, ha, _⟩ := r1
            exact ⟨_, _, _, _, true, rfl, .own _, .base (.ins (e _ _ ha) N.cl NI.ca NI.cn NI.ct NI.cm), NI.k1, q _ P H (Step.refl e) (Dp.bl _)⟩
      have r0 : ∀ {f : Str} {d : PyData}, NoAttr W.K (W.cl 0) f → p.pt.fs.lookup f = some d → ED W (tFld W.K (tVar 0) f) (startD ["self", "other"] [net p.pt, net q.pt]) (.py d) := fun hn hl => ed_fld (ed_var rfl) N.cl hn hl
      have r1 : ∀ {f : Str} {d : PyData}, NoAttr W.K (W.cl 0) f → q.pt.fs.lookup f = some d → ED W (tFld W.K (tVar 1) f) (startD ["self", "other"] [net p.pt, net q.pt]) (.py d) := fun hn hl => ed_fld (ed_var rfl) N.cl hn hl
      refine (ed_andV (ed_cb (ea_cons (ed_var rfl) (ea_cons ecl ea_nil)) isi) fun _ => ?_).cast (by rw [Bool.true_and])
      exact ed_andV (ed_op (r0 N.n1 rfl) (r1 N.n1 rfl) (rd_eqD (sh_int _) (sh_int _))) fun _ => ed_andV (ed_op (r0 N.n2 rfl) (r1 N.n2 rfl) (rd_eqD (sh_ties _) (sh_ties _))) fun _ =>
        ed_andV (ed_op (r0 N.n3 rfl) (r1 N.n3 rfl) (rd_eqD (sh_ints _) (sh_ints _))) fun _ => ed_andV (ed_op (r0 N.n4 rfl) (r1 N.n4 rfl) (rd_eqD (sh_int _) (sh_int _))) fun _ =>
        ed_andV (ed_op (r0 N.n5 rfl) (r1 N.n5 rfl) (rd_eqD (sh_split hp.s1) (sh_split hq.s1))) fun _ => ed_andV (ed_op (r0 N.n6 rfl) (r1 N.n6 rfl) (rd_eqD (sh_cry hp.c1) (sh_cry hq.c1))) fun _ =>
        ed_op (r0 N.n7 rfl) (r1 N.n7 rfl) (rd_eqD (sh_int _) (sh_int _))
    · refine (sd_ret ?_).sx
      have isi : RDA W (rIsi W.K) [pI i, .cls 0] (pB false) := fun P H vs e r Q q => by
        cases r with
        | cons r1 r2 => cases r2 with
          | cons r2 r3 =>
            cases r3
            cases r2
            cases r1
            exact ⟨_, _, _, _, false, rfl, .own _, .base (.int i), NI.k0, q _ P H (Step.refl e) (Dp.bl _)⟩
      exact (ed_andV (b := true) (ed_cb (ea_cons (ed_var rfl) (ea_cons ecl ea_nil)) isi) fun h => by cases h).cast rfl
end
end K01

set_option Elab.async false
set_option linter.all false
set_option maxRecDepth 100000
set_option maxHeartbeats 4000000
namespace K01
open PySem L2 Dl PySem.Spec PyProof.Rows
open Evl (Ex fresh_back sz_of sz_lt ex_l ex_t sq_of st_of)
/-! ### len -/
abbrev sLen : Stmt := inClass (top 26) 2
abbrev sGet : Stmt := inClass (top 26) 3
abbrev sBut : Stmt := inClass (top 26) 5
abbrev sWk : Stmt := inClass (top 26) 6
def RLen (l : List D) (o : Res) : Prop := ∃ p : Nt, p.Ok ∧ l = [net p.pt] ∧ o = .ok (pI p.n)
theorem scLen : FnScope ["self"] ["self"] (defScope sLen) := ⟨rfl, rfl, rfl, by decide +kernel, rfl, by decide +kernel, by decide +kernel⟩
theorem scGet : FnScope ["self", "at"] ["self", "at"] (defScope sGet) := ⟨rfl, rfl, rfl, by decide +kernel, rfl, by decide +kernel, by decide +kernel⟩
theorem scBut : FnScope ["self", "name", "thing", "rules"] ["self", "name", "thing"] (defScope sBut) := ⟨rfl, rfl, rfl, by decide +kernel, rfl, by decide +kernel, by decide +kernel⟩
theorem scWk : FnScope ["self", "weak"] ["self", "weak"] (defScope sWk) := ⟨rfl, rfl, rfl, by decide +kernel, rfl, by decide +kernel, by decide +kernel⟩
/-- an own error class without anything of its own -/
structure BadC (K : PySem.W.Frag) (mg : Str → Option Value) (x : Str) (C : Addr) : Prop where
  ex : PySem.W.excIn K C [.type "ValueError", .type "Exception", .type "BaseException", .type "object"] "ValueError.__new__" = true
  g : mg x = some (.ref C)
  kp : PySem.W.keepIn K (.ref C) = true
  bx : PySem.W.subIn K (.ref C) (.type "BaseException") = some true
  ty : PySem.W.typeIn K (.ref C) = some (.type "type")
def RGet (l : List D) (o : Res) : Prop := ∃ (p : Nt) (i : Int), p.Ok ∧ l = [net p.pt, pI i] ∧ o = if 0 ≤ i ∧ i < p.ts.length then .ok (.py (tieD (p.ts.getD i.toNat (0, 0)))) else .error (.pl 2)
def RWk (l : List D) (o : Res) : Prop := ∃ (p : Nt) (k : PyData), l = [net p.pt, .py k] ∧ o = netR { p.pt with k := k }
section
variable {P : Program} {w : World} {W : Wd} {mg : Str → Option Value} {base : Heap}
theorem okLen {f : Addr} {fd : FuncData} (F : Fun W.K "__len__" "Net.__len__" sLen f fd) (T : Blt mg) (hrg : mg "range" = none) (N : NetC W mg) :
    FnOk P w W.K mg base (L2.CX P w) 1 f fd ["self"] (spR W RLen) := by
  refine okX F scLen (fun l o h => ?_) (fun cdv A outer s H E hr l o h => ?_)
  · obtain ⟨p, _, rfl, _⟩ := h; rfl
  · refine ⟨_, pss_one (ps_ret (pe_lenRg (by rfl) T.len (prg_1 (by rfl) hrg (pe_fld (pv 0) rfl)))), ?_⟩
    obtain ⟨p, hp, rfl, rfl⟩ := h
    refine (sd_ret ?_).sx
    intro σ P H e env Q q
    have hf : ED W (tFld W.K (tVar 0) "hosts") (startD ["self"] [net p.pt]) (pI p.n) := ed_fld (ed_var (i := 0) (d := net p.pt) rfl) N.cl N.n1 rfl
    refine hf σ P H e env (fun x H1 => ∃ n, x = .int n ∧ (RgOk 0 n ∧ Q (.int ((n - 0).toNat : Nat)) H1)) fun v P1 H1 s1 r1 => ?_
    cases r1
    refine ⟨p.n, rfl, ?_, ?_⟩
    · have := hp.n0; have := hp.n1
      exact RgOk.of_le (by omega) (by omega) (by omega) (by omega)
    · have e : ((p.n - 0).toNat : Int) = p.n := by have := hp.n0; omega
      rw [e]
      exact q _ P1 H1 s1 (Dp.int _)
theorem okGet {f : Addr} {fd : FuncData} (F : Fun W.K "__getitem__" "Net.__getitem__" sGet f fd) (T : Blt mg) (N : NetC W mg) (B : BadC W.K mg "BadTie" (W.cl 2)) (C6 : CD P w W mg base "is_within" 2 ["thing", "least", "most"] F6) :
    FnOk P w W.K mg base (L2.CX P w) 3 f fd ["self", "at"] (spR W RGet) := by
  refine okX F scGet (fun l o h => ?_) (fun cdv A outer s H E hr l o h => ?_)
  · obtain ⟨p, i, _, rfl, _⟩ := h; rfl
  · refine ⟨_, pss_cons (ps_if (pt_not (pt_val (pe_cd C6 hr (pa_cons (pv 1) (pa_cons pe_int (pa_cons (pe_op op_sub (pe_callB call_len_seq (by rfl) T.len PySem.boot_len (pa_cons (pe_fld (pv 0) rfl) pa_nil)) pe_int) pa_nil))))))
        (pss_one (ps_raise rfl (takes_of rfl rfl rfl rfl) (pmk_own PySem.F.excBase_ValueError B.ex B.g B.kp (raises_own B.bx B.ty) rfl))) pss_nil)
      (pss_one (ps_ret (pe_ix ix_tup (pe_fld (pv 0) rfl) (pv 1) (fun _ _ => rfl)))), ?_⟩
    obtain ⟨p, i, hp, rfl, rfl⟩ := h
    have rt : ED W (tFld W.K (tVar 0) "ties") (startD ["self", "at"] [net p.pt, pI i]) (pT (p.ts.map tieD)) := ed_fld (ed_var (i := 0) (d := net p.pt) rfl) N.cl N.n2 rfl
    have hl : (((p.ts.map tieD).length : Nat) : Int) = p.ts.length := by rw [List.length_map]
    refine sx_when (b := !(within (.int i) 0 (p.ts.length - 1))) (et_not (et_B (ed_call (ea_cons (ed_var rfl) (ea_cons ed_int (ea_cons (ed_op (ed_cb (ea_cons rt ea_nil) (rda_len (n := p.ts.length) (by rw [lenD, hl]))) ed_int rd_I) ea_nil))) rfl))) (fun hb => ?_) (fun hb => ?_)
    · have hi : ¬ (0 ≤ i ∧ i < p.ts.length) := fun z => by
        simp [within] at hb
        omega
      rw [if_neg hi]
      exact fun σ P H D e env q x => x (.pl 2) rfl _ none P H (Step.refl e) rfl
    · have hi : 0 ≤ i ∧ i < p.ts.length := by
        simp [within] at hb
        omega
      rw [if_pos hi]
      refine sx_ret (ed_op rt (ed_var rfl) (rd_ixT ?_)).ex
      have h1 : i.toNat < (p.ts.map tieD).length := by rw [List.length_map]; omega
      have e1 : ixN (p.ts.map tieD).length i = some i.toNat := by
        unfold ixN
        rw [if_pos hi.1, if_pos (by rw [List.length_map]; omega)]
      unfold L2.atI
      rw [e1]
      show (p.ts.map tieD)[i.toNat]? = _
      rw [List.getElem?_map, List.getD_eq_getElem?_getD, List.getElem?_eq_getElem (by rw [List.length_map] at h1; exact h1)]
      rfl
theorem okWk {f : Addr} {fd : FuncData} (F : Fun W.K "with_weak" "Net.with_weak" sWk f fd) (N : NetF P w W mg base) :
    FnOk P w W.K mg base (L2.CX P w) 8 f fd ["self", "weak"] (spR W RWk) := by
  refine okX F scWk (fun l o h => ?_) (fun cdv A outer s H E hr l o h => ?_)
  · obtain ⟨p, i, rfl, _⟩ := h; rfl
  · refine ⟨_, pss_one (ps_ret (pe_netK N hr (passes_call (takes_of rfl rfl rfl rfl) fun _ _ _ _ z => z) (pa_cons (pe_fld (pv 0) rfl) (pa_cons (pe_fld (pv 0) rfl) pa_nil)) (pk_cons (pv 1) (pk_cons (pe_fld (pv 0) rfl) (pk_cons (pe_fld (pv 0) rfl) (pk_cons (pe_fld (pv 0) rfl) (pk_cons (pe_fld (pv 0) rfl) pk_nil))))))), ?_⟩
    obtain ⟨p, k, rfl, rfl⟩ := h
    have r0 : ∀ {f : Str} {d : PyData}, NoAttr W.K (W.cl 0) f → p.pt.fs.lookup f = some d → ED W (tFld W.K (tVar 0) f) (startD ["self", "weak"] [net p.pt, .py k]) (.py d) := fun hn hl => ed_fld (ed_var (i := 0) (d := net p.pt) rfl) N.c.cl hn hl
    exact sx_ret (ex_netK (ea_cons (r0 N.c.n1 rfl) (ea_cons (r0 N.c.n2 rfl) ea_nil)) (ea_cons (ed_var rfl) (ea_cons (r0 N.c.n4 rfl) (ea_cons (r0 N.c.n5 rfl) (ea_cons (r0 N.c.n6 rfl) (ea_cons (r0 N.c.n7 rfl) ea_nil))))))
/-! but -/
def Pt.put (p : Pt) (x : Str) (d : PyData) : Pt := { p with e := if x = "endless" then d else p.e, s := if x = "split" then d else p.s, c := if x = "cry" then d else p.c, o := if x = "hold" then d else p.o }
def butR (p : Pt) (name d : PyData) : Res := match name with
  | .str x => if x ∈ rules then netR (p.put x d) else .error (.own 1 "part" .none)
  | _ => .error (.own 1 "part" .none)
def RBut (l : List D) (o : Res) : Prop := ∃ (p : Nt) (name d : PyData), l = [net p.pt, .py name, .py d] ∧ o = butR p.pt name d
theorem butR_no {p : Pt} {name d : PyData} (h : wordIn name rules = false) : butR p name d = .error (.own 1 "part" .none) := by
  cases name with
  | str x =>
    have hx : ¬ x ∈ rules := by
      intro z
      have h2 : (rules.any (· == x)) = false := h
      rw [List.any_eq_false] at h2
      exact h2 x z (by simp)
    show (if x ∈ rules then _ else _) = _
    rw [if_neg hx]
  | _ => rfl
/-- the four rules as a dict -/
def rulesD (p : Pt) : List (Str × PyData) := [("endless", p.e), ("split", p.s), ("cry", p.c), ("hold", p.o)]
theorem put_rel {K : PySem.W.Frag} {H : Hp} {v1 v2 v3 v4 v : V} {p : Pt} {x : Str} {d : PyData} (h1 : Dp K H v1 p.e) (h2 : Dp K H v2 p.s) (h3 : Dp K H v3 p.c) (h4 : Dp K H v4 p.o) (h : Dp K H v d) (hx : x ∈ rules) :
    Paired (fun (a : Key × V) (b : Str × PyData) => a.1 = .inr b.1 ∧ Dp K H a.2 b.2) (putK [((.inr "endless" : Key), v1), (.inr "split", v2), (.inr "cry", v3), (.inr "hold", v4)] (.inr x) v) (rulesD (p.put x d)) := by
  have hx : x = "endless" ∨ x = "split" ∨ x = "cry" ∨ x = "hold" := by
    unfold rules at hx
    simpa using hx
  rcases hx with rfl | rfl | rfl | rfl
  · exact .cons ⟨rfl, h⟩ (.cons ⟨rfl, h2⟩ (.cons ⟨rfl, h3⟩ (.cons ⟨rfl, h4⟩ .nil)))
  · exact .cons ⟨rfl, h1⟩ (.cons ⟨rfl, h⟩ (.cons ⟨rfl, h3⟩ (.cons ⟨rfl, h4⟩ .nil)))
  · exact .cons ⟨rfl, h1⟩ (.cons ⟨rfl, h2⟩ (.cons ⟨rfl, h⟩ (.cons ⟨rfl, h4⟩ .nil)))
  · exact .cons ⟨rfl, h1⟩ (.cons ⟨rfl, h2⟩ (.cons ⟨rfl, h3⟩ (.cons ⟨rfl, h⟩ .nil)))
theorem tp_str {v : V} {tv : TE} {r : List (TE × TE)} {σ : L2.St} {H : Hp} {Q : List (V × V) → Hp → Prop} (h : tv σ H fun y H2 => tPairs r σ H2 fun ps H3 => Q ((v, y) :: ps) H3) : tPairs ((tC v, tv) :: r) σ H Q := h
theorem okBut {f fB : Addr} {fd : FuncData} (F : Fun W.K "but" "Net.but" sBut f fd) (S : Cst W mg) (N : NetF P w W mg base) (B : PySem.ExP.SupTxt P W.K mg (W.cl 1) fB) (C7 : CD P w W mg base "is_word" 1 ["thing", "words"] F7) :
    FnOk P w W.K mg base (L2.CX P w) 8 f fd ["self", "name", "thing"] (spR W RBut) := by
  refine okX F scBut (fun l o h => ?_) (fun cdv A outer s H E hr l o h => ?_)
  · obtain ⟨p, i, _, rfl, _⟩ := h; rfl
  · obtain ⟨a1, g1, q1⟩ := S.ru
    have hu : (A.deeper (envOfC "Net.but" (defScope sBut) s.heap.objs.size f cdv)).units + 1 < cLine := by have := hr.un; omega
    refine ⟨_, pss_cons (ps_if (pt_not (pt_val (pe_cd C7 (hr.mono (by decide)) (pa_cons (pv 1) (pa_cons (pe_glob (v := .ref a1) rfl g1 rfl) pa_nil))))) (pss_one (ps_raisePart rfl B hr (takes_of rfl rfl rfl rfl) (pa_cons pe_non pa_nil))) pss_nil)
      (pss_cons (ps_set (i := 3) scBut.nd rfl (.inl rfl) (pe_disp (pps_cons pe_str (pe_fld (pv 0) rfl) (pps_cons pe_str (pe_fld (pv 0) rfl) (pps_cons pe_str (pe_fld (pv 0) rfl) (pps_cons pe_str (pe_fld (pv 0) rfl) pps_nil)))) rfl rfl (by simp) (by decide)))
      (pss_cons (ps_dput hu (pv 3) (pv 1) (pv 2) rfl)
      (pss_one (ps_ret (pe_netK N hr (passes_call (takes_of rfl rfl rfl rfl) fun _ _ _ _ z => z) (pa_cons (pe_fld (pv 0) rfl) (pa_cons (pe_fld (pv 0) rfl) pa_nil)) (pk_cons (pe_fld (pv 0) rfl) (pk_cons (pe_dget hu (pv 3) pe_str (fun _ _ => rfl)) (pk_cons (pe_dget hu (pv 3) pe_str (fun _ _ => rfl)) (pk_cons (pe_dget hu (pv 3) pe_str (fun _ _ => rfl)) (pk_cons (pe_dget hu (pv 3) pe_str (fun _ _ => rfl)) pk_nil)))))))))), ?_⟩
    obtain ⟨p, name, d, rfl, rfl⟩ := h
    refine sx_when (b := !(wordIn name rules)) (et_not (et_B (ed_call (z := pB (wordIn name rules)) (ea_cons (ed_var rfl) (ea_cons (ed_c (d := pT (rules.map PyData.str)) q1) ea_nil)) (F7_w strs_rules)))) (fun hb => ?_) (fun hb => ?_)
    · have hb : wordIn name rules = false := by simpa using hb
      rw [butR_no hb]
      refine fun σ P H D e env q x => ⟨_, rfl, .inl rfl, fun dd hd => ?_⟩
      have st := Step.new (o := .xd [(("part" : Str), V.non)]) e hd
      exact x (.own 1 "part" .none) rfl _ _ _ _ st ⟨rfl, dd, .non, rfl, upd_same, .non⟩
    · obtain ⟨x, rfl, hx⟩ := wordIn_iff (show ¬ (wordIn name rules = false) by simpa using hb)
      have eb : butR p.pt (.str x) d = netR (p.pt.put x d) := if_pos hx
      rw [eb]
      intro σ P H D e env q xx
      intro a ha
      have nPa : P a = none := fresh_back e ha
      have e1 : Ex P (upd H a (.dK [])) := fun b o q => by rw [upd_ne (ne_of_none (e b o q) ha)]; exact e b o q
      have r0 : ∀ {f : Str} {d' : PyData}, NoAttr W.K (W.cl 0) f → p.pt.fs.lookup f = some d' → ED W (tFld W.K (tVar 0) f) (startD ["self", "name", "thing", "rules"] [net p.pt, .py (.str x), .py d]) (.py d') := fun hn hl => ed_fld (ed_var (i := 0) (d := net p.pt) rfl) N.c.cl hn hl
      refine tp_str ?_
      refine (r0 N.c.n4 rfl) σ P _ e1 env _ fun v1 P1 H1 s1 d1 => ?_
      refine tp_str ?_
      refine (r0 N.c.n5 rfl) σ P1 H1 s1.ph (env.mono s1.pp) _ fun v2 P2 H2 s2 d2 => ?_
      have t2 := s1.trans s2
      refine tp_str ?_
      refine (r0 N.c.n6 rfl) σ P2 H2 t2.ph (env.mono t2.pp) _ fun v3 P3 H3 s3 d3 => ?_
      have t3 := t2.trans s3
      refine tp_str ?_
      refine (r0 N.c.n7 rfl) σ P3 H3 t3.ph (env.mono t3.pp) _ fun v4 P4 H4 s4 d4 => ?_
      have t4 := t3.trans s4
      have hP4 : P4 a = none := by rw [t4.nw a _ upd_same]; exact nPa
      refine ⟨t4.hh a _ upd_same, [((.inr "endless" : Key), v1), (.inr "split", v2), (.inr "cry", v3), (.inr "hold", v4)], rfl, (show (4 : Nat) ≤ 15 by decide), ?_⟩
      -- rules[name] = thing
      obtain ⟨vt, hvt, rvt⟩ := env.get 2 (.py d) rfl
      obtain ⟨vn, hvn, rvn⟩ := env.get 1 (.py (.str x)) rfl
      cases rvn
      have hl := env.len
      have hl : σ.length = 4 := hl
      refine ⟨vt, by rw [List.getElem?_set_ne (by decide)]; exact hvt, .ref a, by rw [List.getElem?_set_self (by omega)], .str x, by rw [List.getElem?_set_ne (by decide)]; exact hvn, a, _, rfl, DPut.k (k := (.inr x : Key)) upd_same ?_, ?_⟩
      · show (4 : Nat) < sizeLine
        rw [PySem.sizeLine_eq]; decide
      rw [upd_upd]
      have em : mergeK [] [((.inr "endless" : Key), v1), (.inr "split", v2), (.inr "cry", v3), (.inr "hold", v4)] = [((.inr "endless" : Key), v1), (.inr "split", v2), (.inr "cry", v3), (.inr "hold", v4)] := by rfl
      rw [em]
      have pr : Paired _ _ _ := put_rel (dp_mono ((s2.trans s3).trans s4).pp d1) (dp_mono (s3.trans s4).pp d2) (dp_mono s4.pp d3) d4 (dp_mono t4.pp rvt) hx
      generalize hkv : putK [((.inr "endless" : Key), v1), (.inr "split", v2), (.inr "cry", v3), (.inr "hold", v4)] (.inr x) vt = kv at pr ⊢
      have ne : ∀ {b : Addr} {o : HO}, H b = some o → b ≠ a := fun h => ne_of_none h ha
      have en : Ex P4 (upd P4 a (.dK kv)) := Ex.new hP4
      have S : Step P H (upd P4 a (.dK kv)) (upd H4 a (.dK kv)) := ⟨t4.pp.trans en, fun b o q' => by
        by_cases hb' : b = a
        · subst hb'
          rw [upd_same] at q' ⊢
          exact q'
        · rw [upd_ne hb'] at q' ⊢
          exact t4.ph b o q', fun b o q' => by
            rw [upd_ne (ne q')]
            exact t4.hh b o (by rw [upd_ne (ne q')]; exact q'), fun b o q' => by
            rw [upd_ne (ne q')]
            exact t4.nw b o (by rw [upd_ne (ne q')]; exact q'), fun b ps q' => by
            by_cases hb' : b = a
            · subst hb'
              rw [upd_same] at q'
              cases q'
            · rw [upd_ne hb'] at q'
              exact t4.nt b ps q'⟩
      have env2 : EnvD W ((startD ["self", "name", "thing", "rules"] [net p.pt, .py (.str x), .py d]).set 3 (some (.dct (rulesD (p.pt.put x d))))) (σ.set 3 (some (.ref a))) (upd P4 a (.dK kv)) :=
        (env.mono S.pp).set 3 (d := .dct (rulesD (p.pt.put x d))) ⟨a, kv, rfl, upd_same, Paired.mapP pr fun _ _ z => ⟨z.1, dp_mono en z.2⟩⟩
      have r1 : ∀ {f : Str} {d' : PyData}, NoAttr W.K (W.cl 0) f → p.pt.fs.lookup f = some d' → ED W (tFld W.K (tVar 0) f) ((startD ["self", "name", "thing", "rules"] [net p.pt, .py (.str x), .py d]).set 3 (some (.dct (rulesD (p.pt.put x d))))) (.py d') := fun hn hl => ed_fld (ed_var (i := 0) (d := net p.pt) rfl) N.c.cl hn hl
      have r2 : ∀ {f : Str} {d' : PyData}, (rulesD (p.pt.put x d)).lookup f = some d' → ED W (tDGet (tVar 3) (tC (.str f))) ((startD ["self", "name", "thing", "rules"] [net p.pt, .py (.str x), .py d]).set 3 (some (.dct (rulesD (p.pt.put x d))))) (.py d') := fun hl => ed_dget (ed_var (i := 3) rfl) ed_str hl
      exact (sx_ret (ex_netK (h := p.pt.h) (tt := p.pt.t) (k := p.pt.k) (e := (p.pt.put x d).e) (s := (p.pt.put x d).s) (c := (p.pt.put x d).c) (o := (p.pt.put x d).o) (ea_cons (r1 N.c.n1 rfl) (ea_cons (r1 N.c.n2 rfl) ea_nil)) (ea_cons (r1 N.c.n3 rfl) (ea_cons (r2 rfl) (ea_cons (r2 rfl) (ea_cons (r2 rfl) (ea_cons (r2 rfl) ea_nil))))))) _ _ _ D S.ph env2
        (fun d' hd v P' H' s' r' => q d' hd v P' H' (S.trans s') r') fun er he cls dd P' H' s' r' => xx er he cls dd P' H' (S.trans s') r'
end
end K01

set_option Elab.async false
set_option linter.all false
set_option maxRecDepth 100000
set_option maxHeartbeats 4000000
namespace K01
open PySem L2 Dl PySem.Spec PyProof.Rows
open Evl (Ex fresh_back sz_of sz_lt ex_l ex_t sq_of st_of)
abbrev s28 : Stmt := top 28
/-- builtins that the law's own defs call -/
structure Blt2 (mg : Str → Option Value) : Prop where
  int : mg "int" = none
  sum : mg "sum" = none
  list : mg "list" = none
  tuple : mg "tuple" = none
  range : mg "range" = none
  len : mg "len" = none
  enum : mg "enumerate" = none
  all : mg "all" = none
def cellsOf (ns : List Int) : List Int := if ns = [] then [5] else ns.take 63
theorem cells_pos (ns : List Int) : 0 < (cellsOf ns).length := by
  unfold cellsOf
  split
  · decide
  · rename_i h
    have := List.length_pos_iff.mpr h
    rw [List.length_take]
    omega
theorem cells_le (ns : List Int) : (cellsOf ns).length ≤ 63 := by
  unfold cellsOf
  split
  · decide
  · rw [List.length_take]; omega
def cellAt (ns : List Int) (i : Int) : Int := (cellsOf ns).getD (i % ((cellsOf ns).length : Int)).toNat 0 + 13 * (i / ((cellsOf ns).length : Int))
def lowAt (ns : List Int) (i : Int) : Int := cellAt ns i % 1000003
def highAt (ns : List Int) (i : Int) : Int := (cellAt ns i / 1000003) % 999983
def blendAt (ns : List Int) (i : Int) : Int := ((lowAt ns i + 977 * i) * 48271 + 31 * highAt ns i + (cellsOf ns).sum % 65521) % 2147483647
def numAt (ns : List Int) (i : Int) : Int := (blendAt ns i * (blendAt ns i + 31 * i + 7)) % 2147483629 * 65537 + highAt ns i
def R28 (l : List D) (o : Res) : Prop := ∃ (ns : List Int) (i : Int), ns.length ≤ 1000 ∧ l = [pL (ns.map PyData.int), pI i] ∧ o = .ok (pI (numAt ns i))
abbrev N28 : List Str := ["script", "index", "cells", "cell", "low", "high", "total", "blend"]
theorem sc28 : FnScope N28 ["script", "index"] (defScope s28) := ⟨rfl, rfl, rfl, by decide +kernel, rfl, by decide +kernel, by decide +kernel⟩
theorem sd_par {W : Wd} {ds : DS} {i j : Nat} {ta : TA} {x y : D} (h : EA W ta ds [x, y]) : SD W (tPar i j ta) ds (.nx ((ds.set i (some x)).set j (some y))) := fun σ P H E e env k =>
  h σ P H e env _ fun vs P1 H1 s1 r1 => by
    cases r1 with | cons r1 r => cases r with | cons r2 r =>
      cases r
      exact ⟨_, _, rfl, k _ P1 H1 s1 (((env.mono s1.pp).set i r1).set j r2)⟩
theorem sh_intsL (l : List Int) : SeqAt.shaped (.list (l.map PyData.int)) = true := by
  unfold SeqAt.shaped
  rw [PyData.canLay0, lay_ints, PyData.depth]
  have := dep_ints l
  simp
  omega
theorem eqv_nil (l : List Int) : PyData.eqv (.list (l.map PyData.int)) (.list []) = decide (l = []) := by
  cases l with
  | nil => rfl
  | cons a r => rfl
section
variable {P : Program} {w : World} {W : Wd} {mg : Str → Option Value} {base : Heap}
theorem ok28 {f : Addr} {fd : FuncData} (F : Fun W.K "_law_number" "_law_number" s28 f fd) (T : Blt2 mg) : FnOk P w W.K mg base (L2.CX P w) 1 f fd ["script", "index"] (spR W R28) := by
  refine okX F sc28 (fun l o h => ?_) (fun cdv A outer s H E hr l o h => ?_)
  · obtain ⟨p, i, _, rfl, _⟩ := h; rfl
  · have hu : (A.deeper (envOfC "_law_number" (defScope s28) s.heap.objs.size f cdv)).units + 64 < cLine := by have := hr.un; omega
    refine ⟨_, pss_cons (ps_set (i := 2) sc28.nd rfl (.inl rfl) (pe_ifExp (pt_cmpR (op_neD hu) (pv 0) (pe_lst pa_nil) (nomark _)) (pe_slice sl_list (pv 0) po_none (po_some pe_int)) (pe_lst (pa_cons pe_int pa_nil))))
      (pss_cons (ps_set (i := 3) sc28.nd rfl (.inl rfl) (pe_op op_add (pe_ix ix_list (pv 2) (pe_op op_mod (pe_callTy call_int1 (by rfl) T.int (by decide +kernel) (pa_cons (pv 1) pa_nil)) (pe_callB call_len_seq (by rfl) T.len PySem.boot_len (pa_cons (pv 2) pa_nil))) (fun _ _ => rfl))
          (pe_op op_mul pe_int (pe_op op_fdiv (pv 1) (pe_callB call_len_seq (by rfl) T.len PySem.boot_len (pa_cons (pv 2) pa_nil))))))
      (pss_cons (ps_par (i := 4) (j := 5) rfl sc28.nd rfl rfl (by decide) rfl rfl (pa_cons (pe_op op_mod (pe_callTy call_int1 (by rfl) T.int (by decide +kernel) (pa_cons (pv 3) pa_nil)) pe_int) (pa_cons (pe_op op_mod (pe_callTy call_int1 (by rfl) T.int (by decide +kernel) (pa_cons (pe_op op_fdiv (pv 3) pe_int) pa_nil)) pe_int) pa_nil)) rfl)
      (pss_cons (ps_set (i := 6) sc28.nd rfl (.inl rfl) (pe_op op_mod (pe_callTy call_int1 (by rfl) T.int (by decide +kernel) (pa_cons (pe_callB (cr_sum rfl) (by rfl) T.sum (by decide +kernel) (pa_cons (pv 2) pa_nil)) pa_nil)) pe_int))
      (pss_cons (ps_set (i := 7) sc28.nd rfl (.inl rfl) (pe_op op_mod (pe_callTy call_int1 (by rfl) T.int (by decide +kernel) (pa_cons (pe_op op_add (pe_op op_add (pe_op op_mul (pe_op op_add (pv 4) (pe_op op_mul pe_int (pv 1))) pe_int) (pe_op op_mul pe_int (pv 5))) (pv 6)) pa_nil)) pe_int))
      (pss_one (ps_ret (pe_op op_add (pe_op op_mul (pe_op op_mod (pe_callTy call_int1 (by rfl) T.int (by decide +kernel) (pa_cons (pe_op op_mul (pv 7) (pe_op op_add (pe_op op_add (pv 7) (pe_op op_mul pe_int (pv 1))) pe_int)) pa_nil)) pe_int) pe_int) (pv 5)))))))), ?_⟩
    obtain ⟨ns, i, hn, rfl, rfl⟩ := h
    have bi : ∀ {ds : DS} {te : TE} {i : Int}, ED W te ds (pI i) → ED W (tCB _ (tCons te tNil)) ds (pI i) := fun h => ed_cb (ea_cons h ea_nil) rda_int
    have hp := cells_pos ns
    have hl := cells_le ns
    have hlen : ((((cellsOf ns).map PyData.int).length : Nat) : Int) = ((cellsOf ns).length : Int) := by rw [List.length_map]
    have ln : ∀ {ds : DS}, ds[2]? = some (some (pL ((cellsOf ns).map PyData.int))) → ED W (tCB (fun xs H Q => ∃ p ys, xs = [.ref p] ∧ (SqL W.K H p ys ∨ SqT W.K H p ys) ∧ Q (.int ys.length) H) (tCons (tVar 2) tNil)) ds (pI ((cellsOf ns).length : Int)) := fun h => (ed_cb (ea_cons (ed_var h) ea_nil) (rda_len rfl)).cast (by rw [hlen])
    have b13 : ∀ j : Int, CMul 13 j := fun j => .inl ⟨by decide, by decide⟩
    have hm0 := Int.emod_nonneg i (show ((cellsOf ns).length : Int) ≠ 0 by omega)
    have hm1 := Int.emod_lt_of_pos i (show (0 : Int) < ((cellsOf ns).length : Int) by omega)
    refine (sd_seq (sd_asg (d := pL ((cellsOf ns).map PyData.int)) (ed_if (b := !(decide (ns = []))) (et_test ((ed_op (ed_var (i := 0) rfl) (ed_lst (l := []) ea_nil (by decide)) (rd_neD (sh_intsL ns) (by decide +kernel))).cast (by rw [eqv_nil])))
        (fun hb => (ed_slL (ed_var (i := 0) rfl) eo_none (eo_some ed_int)).cast ?_) (fun hb => (ed_lst (l := [.int 5]) (ea_cons ed_int ea_nil) (by decide)).cast ?_))) ?_).sx
    · have hne : ¬ ns = [] := by simpa using hb
      have e1 : Dl.cutD (ns.map PyData.int) none (some 63) = (cellsOf ns).map PyData.int := by
        unfold Dl.cutD cellsOf
        rw [if_neg hne, HT.sIx_none, List.drop_zero, List.map_take]
        have e2 : HT.sIx (ns.map PyData.int).length (ns.map PyData.int).length (some 63) = min 63 (ns.map PyData.int).length := HT.sIx_nat _ _ 63
        rw [e2, Nat.sub_zero]
        by_cases h : 63 ≤ (ns.map PyData.int).length
        · rw [Nat.min_eq_left h]
        · rw [Nat.min_eq_right (by omega), List.take_length, List.take_of_length_le (by omega)]
      rw [e1]
    · have hne : ns = [] := by simpa using hb
      unfold cellsOf
      rw [if_pos hne]
      rfl
    refine sd_seq (sd_asg (d := pI (cellAt ns i)) (ed_op (ed_op (ed_var (i := 2) rfl) (ed_op (bi (ed_var (i := 1) rfl)) (ln rfl) (rd_IC (by omega))) (rd_ixL ?_)) (ed_op ed_int (ed_op (ed_var (i := 1) rfl) (ln rfl) (rd_IC ⟨by omega, by omega⟩)) (rd_IC (b13 _))) rd_I)) ?_
    · have h0 : (i % ((cellsOf ns).length : Int)).toNat < (cellsOf ns).length := by omega
      unfold L2.atI ixN
      rw [if_pos hm0, if_pos (by rw [List.length_map]; omega)]
      show ((cellsOf ns).map PyData.int)[(i % ((cellsOf ns).length : Int)).toNat]? = _
      rw [List.getElem?_map, List.getD_eq_getElem?_getD, List.getElem?_eq_getElem h0]
      rfl
    refine sd_seq (sd_par (x := pI (lowAt ns i)) (y := pI (highAt ns i)) (ea_cons (ed_op (bi (ed_var (i := 3) rfl)) ed_int (rd_IC (by decide))) (ea_cons (ed_op (bi (ed_op (ed_var (i := 3) rfl) ed_int (rd_IC ⟨by decide, by decide⟩))) ed_int (rd_IC (by decide))) ea_nil))) ?_
    refine sd_seq (sd_asg (d := pI ((cellsOf ns).sum % 65521)) (ed_op (bi (ed_cb (ea_cons (ed_var (i := 2) rfl) ea_nil) rda_sum)) ed_int (rd_IC (by decide)))) ?_
    refine sd_seq (sd_asg (d := pI (blendAt ns i)) (ed_op (bi (ed_op (ed_op (ed_op (ed_op (ed_var (i := 4) rfl) (ed_op ed_int (ed_var (i := 1) rfl) (rd_IC (.inl ⟨by decide, by decide⟩))) rd_I) ed_int (rd_IC (.inr ⟨by decide, by decide⟩))) (ed_op ed_int (ed_var (i := 5) rfl) (rd_IC (.inl ⟨by decide, by decide⟩))) rd_I) (ed_var (i := 6) rfl) rd_I)) ed_int (rd_IC (by decide)))) ?_
    have hb0 := Int.emod_nonneg ((lowAt ns i + 977 * i) * 48271 + 31 * highAt ns i + (cellsOf ns).sum % 65521) (show (2147483647 : Int) ≠ 0 by decide)
    have hb1 := Int.emod_lt_of_pos ((lowAt ns i + 977 * i) * 48271 + 31 * highAt ns i + (cellsOf ns).sum % 65521) (show (0 : Int) < 2147483647 by decide)
    have hb : 0 ≤ blendAt ns i ∧ blendAt ns i < 2147483647 := ⟨hb0, hb1⟩
    exact sd_ret (ed_op (ed_op (ed_op (bi (ed_op (ed_var (i := 7) rfl) (ed_op (ed_op (ed_var (i := 7) rfl) (ed_op ed_int (ed_var (i := 1) rfl) (rd_IC (.inl ⟨by decide, by decide⟩))) rd_I) ed_int rd_I) (rd_IC (.inl ⟨by omega, by omega⟩)))) ed_int (rd_IC (by decide))) ed_int (rd_IC (.inr ⟨by decide, by decide⟩))) (ed_var (i := 5) rfl) rd_I)
end
end K01

set_option Elab.async false
set_option linter.all false
set_option maxRecDepth 100000
set_option maxHeartbeats 4000000
namespace K01
open PySem L2 Dl PySem.Spec PyProof.Rows
open Evl (Ex fresh_back sz_of sz_lt ex_l ex_t sq_of st_of)
abbrev s29 : Stmt := top 29
abbrev s30 : Stmt := top 30
abbrev s32 : Stmt := top 32
def R29 (L : Lw) (l : List D) (S : D → Prop) : Prop := ∃ many : Int, 0 < many ∧ l = [.at L.q, pI many] ∧ S = fun d => ∃ i, 0 ≤ i ∧ i < many ∧ d = pI i
def R30 (L : Lw) (l : List D) (S : D → Prop) : Prop := ∃ xs : List PyData, xs ≠ [] ∧ l = [.at L.q, pL xs] ∧ S = fun d => ∃ x ∈ xs, d = .py x
def R32 (l : List D) (o : Res) : Prop := ∃ p : Pt, l = [pT p.list] ∧ o = netR p
theorem sc29 : FnScope ["draw", "many"] ["draw", "many"] (defScope s29) := ⟨rfl, rfl, rfl, by decide +kernel, rfl, by decide +kernel, by decide +kernel⟩
theorem sc30 : FnScope ["draw", "things"] ["draw", "things"] (defScope s30) := ⟨rfl, rfl, rfl, by decide +kernel, rfl, by decide +kernel, by decide +kernel⟩
theorem sc32 : FnScope ["parts"] ["parts"] (defScope s32) := ⟨rfl, rfl, rfl, by decide +kernel, rfl, by decide +kernel, by decide +kernel⟩
section
variable {P : Program} {w : World} {W : Wd} {L : Lw} {mg : Str → Option Value} {base : Heap}
theorem ok29 {f : Addr} {fd : FuncData} (F : Fun W.K "_law_take" "_law_take" s29 f fd) (T : Blt2 mg) (hn : L.ns.length ≤ 1000) (C28 : CX1 P w W mg base "_law_number" 1 ["script", "index"] R28) : FnOk P w W.K mg base (L2.CX P w) 2 f fd ["draw", "many"] (spL W L (R29 L)) := by
  refine okL F sc29 (fun l o h => ?_) (fun cdv A outer s H E hr l o h => ?_)
  · obtain ⟨i, _, rfl, _⟩ := h; rfl
  · refine ⟨_, pss_cons (ps_asg (pe_op op_add (pe_ix ix_list (pv 0) pe_int (fun _ _ => rfl)) pe_int) (pg_sub (pv 0) pe_int set_list (fun _ => rfl)))
      (pss_one (ps_ret (pe_op op_mod (pe_callTy call_int1 (by rfl) T.int (by decide +kernel) (pa_cons (pe_cx0 C28 hr (pa_cons (pe_ix ix_list (pv 0) pe_int (fun _ _ => rfl)) (pa_cons (pe_callTy call_int1 (by rfl) T.int (by decide +kernel) (pa_cons (pe_ix ix_list (pv 0) pe_int (fun _ _ => rfl)) pa_nil)) pa_nil))) pa_nil)) (pv 1)))), ?_⟩
    obtain ⟨many, hm, rfl, rfl⟩ := h
    refine sl_seq (sl_tick rfl (el_op (el_draw1 rfl) ed_int.el fun x y hx hy => ?_)) fun ds' e => ?_
    · obtain ⟨n, rfl⟩ := hx
      subst hy
      exact ⟨_, ⟨_, rfl⟩, rd_I⟩
    · subst e
      refine sl_ret (S := fun d => ∃ i, 0 ≤ i ∧ i < many ∧ d = pI i) (el_op (S1 := fun d => ∃ n, d = pI n) (el_cb (SA := fun l => ∃ n, l = [pI n]) ?_ fun l hl => ?_) (ED.el (ed_var (i := 1) (d := pI many) rfl)) fun x y hx hy => ?_) fun d h => h
      · intro σ P1 H1 lh env Q q
        refine (al_cons (el_callR (S := fun d => ∃ n, d = pI n) (al_cons (el_draw0 rfl) (al_cons (el_cb (S := fun d => ∃ n, d = pI n) (al_cons (el_draw1 rfl) al_nil) fun l hl => ?_) al_nil)) fun l hl => ?_) al_nil) σ P1 H1 lh env Q fun l vs P' H' hl u r => q l vs P' H' ?_ u r
        · obtain ⟨d, r, rfl, ⟨n, rfl⟩, rfl⟩ := hl
          exact ⟨_, ⟨n, rfl⟩, rda_int⟩
        · obtain ⟨d, r, rfl, rfl, d2, r2, rfl, ⟨n, rfl⟩, rfl⟩ := hl
          exact ⟨_, ⟨_, rfl⟩, L.ns, n, hn, rfl, rfl⟩
        · obtain ⟨d, r, rfl, ⟨n, rfl⟩, rfl⟩ := hl
          exact ⟨n, rfl⟩
      · obtain ⟨n, rfl⟩ := hl
        exact ⟨_, ⟨n, rfl⟩, rda_int⟩
      · obtain ⟨n, rfl⟩ := hx
        subst hy
        exact ⟨_, ⟨_, Int.emod_nonneg n (by omega), Int.emod_lt_of_pos n hm, rfl⟩, rd_IC hm⟩
theorem ok30 {f : Addr} {fd : FuncData} (F : Fun W.K "_law_pick" "_law_pick" s30 f fd) (T : Blt2 mg) (C29 : CL P w W L mg base "_law_take" 2 ["draw", "many"] (R29 L)) : FnOk P w W.K mg base (L2.CX P w) 3 f fd ["draw", "things"] (spL W L (R30 L)) := by
  refine okL F sc30 (fun l o h => ?_) (fun cdv A outer s H E hr l o h => ?_)
  · obtain ⟨i, _, rfl, _⟩ := h; rfl
  · refine ⟨_, pss_one (ps_ret (pe_ix ix_list (pv 1) (pe_cl C29 hr (pa_cons (pv 0) (pa_cons (pe_callB call_len_seq (by rfl) T.len PySem.boot_len (pa_cons (pv 1) pa_nil)) pa_nil))) (fun _ _ => rfl))), ?_⟩
    obtain ⟨xs, hx, rfl, rfl⟩ := h
    have hp := List.length_pos_iff.mpr hx
    refine sl_ret (S := fun d => ∃ x ∈ xs, d = .py x) (el_op (ED.el (ed_var (i := 1) (d := pL xs) rfl)) (el_call (S := fun d => ∃ i, 0 ≤ i ∧ i < (xs.length : Int) ∧ d = pI i) (EA.al (l := [.at L.q, pI xs.length]) (ea_cons (ed_var rfl) (ea_cons (ed_cb (ea_cons (ed_var (i := 1) (d := pL xs) rfl) ea_nil) (rda_len rfl)) ea_nil))) fun l hl => ?_) fun x y hx hy => ?_) fun d h => h
    · subst hl
      exact ⟨xs.length, by omega, rfl, rfl⟩
    · subst hx
      obtain ⟨i, h0, h1, rfl⟩ := hy
      have hi : i.toNat < xs.length := by omega
      refine ⟨.py xs[i.toNat], ⟨_, List.getElem_mem hi, rfl⟩, rd_ixL ?_⟩
      unfold L2.atI ixN
      rw [if_pos h0, if_pos (by omega)]
      exact List.getElem?_eq_getElem hi
theorem ok32 {f : Addr} {fd : FuncData} (F : Fun W.K "_law_made" "_law_made" s32 f fd) (N : NetF P w W mg base) : FnOk P w W.K mg base (L2.CX P w) 8 f fd ["parts"] (spR W R32) := by
  refine okX F sc32 (fun l o h => ?_) (fun cdv A outer s H E hr l o h => ?_)
  · obtain ⟨i, rfl, _⟩ := h; rfl
  · refine ⟨_, pss_one (ps_ret (pe_netK N hr (passes_call (takes_of rfl rfl rfl rfl) fun _ _ _ _ z => z) (pa_cons (pe_ix ix_tup (pv 0) pe_int (fun _ _ => rfl)) (pa_cons (pe_ix ix_tup (pv 0) pe_int (fun _ _ => rfl)) pa_nil))
      (pk_cons (pe_ix ix_tup (pv 0) pe_int (fun _ _ => rfl)) (pk_cons (pe_ix ix_tup (pv 0) pe_int (fun _ _ => rfl)) (pk_cons (pe_ix ix_tup (pv 0) pe_int (fun _ _ => rfl)) (pk_cons (pe_ix ix_tup (pv 0) pe_int (fun _ _ => rfl)) (pk_cons (pe_ix ix_tup (pv 0) pe_int (fun _ _ => rfl)) pk_nil))))))), ?_⟩
    obtain ⟨p, rfl, rfl⟩ := h
    have r0 : ∀ {i : Int} {d : PyData}, L2.atI p.list i = some d → ED W (tOp (rIxT W.K) (tVar 0) (tC (.int i))) (startD ["parts"] [pT p.list]) (.py d) := fun h => ed_op (ed_var rfl) ed_int (rd_ixT h)
    exact sx_ret (ex_netK (h := p.h) (tt := p.t) (k := p.k) (e := p.e) (s := p.s) (c := p.c) (o := p.o) (ea_cons (r0 rfl) (ea_cons (r0 rfl) ea_nil)) (ea_cons (r0 rfl) (ea_cons (r0 rfl) (ea_cons (r0 rfl) (ea_cons (r0 rfl) (ea_cons (r0 rfl) ea_nil))))))
end
end K01

set_option Elab.async false
set_option linter.all false
set_option maxRecDepth 100000
set_option maxHeartbeats 4000000
namespace K01
open PySem L2 Dl PySem.Spec PyProof.Rows
open Evl (Ex fresh_back sz_of sz_lt ex_l ex_t sq_of st_of)
/-! ### drawn parts -/
abbrev s31 : Stmt := top 31
def evRow (h one : Nat) : List (Int × Int) := (List.range (h - (one + 1))).map fun k : Nat => ((one : Int), (one : Int) + 1 + (k : Int))
def evT (h k : Nat) : List (Int × Int) := ((List.range k).map (evRow h)).flatten
def tiesOf (h : Nat) (ts : List (Int × Int)) : List (Int × Int) := if ts.take 5 = [] then (evT h h).take 1 else ts.take 5
theorem ev_len : ∀ h ∈ [2, 3, 4], (evT h h).length ≤ 6 := by decide
def tiesGood (h : Nat) (ts : List (Int × Int)) : Bool := tiesP (.tuple ((tiesOf h ts).map tieD)) h && decide ((tiesOf h ts).length ≤ 5)
def subs {α : Type} : List α → List (List α)
  | [] => [[]]
  | a :: r => subs r ++ (subs r).map (a :: ·)
theorem mem_subs {α : Type} {l xs : List α} (h : l.Sublist xs) : l ∈ subs xs := by
  induction h with
  | slnil => exact List.mem_singleton.mpr rfl
  | cons a _ ih => exact List.mem_append_left _ ih
  | cons_cons a _ ih => exact List.mem_append_right _ (List.mem_map.mpr ⟨_, ih, rfl⟩)
theorem ties_good : ([2, 3, 4] : List Nat).all (fun h => (subs (evT h h)).all (tiesGood h)) = true := by decide +kernel
theorem weak_good : (List.range 6).all (fun n => (subs (List.range n)).all fun ks => weakP (.tuple ((ks.map fun k : Nat => PyData.int k).take 2)) n) = true := by decide +kernel
def fars : List Int := [3, 4, 3, 4, 2, 5]
def spl4 : List Str := ["plain", "plain", "poison", "quiet"]
def cry3 : List Str := ["loud", "still", "still"]
def hld4 : List Int := [0, 0, 1, 2]
theorem rule_good : fars.all (fun e => spl4.all fun s => cry3.all fun c => hld4.all fun o => decide (ruleP (.int e) (.str s) (.str c) (.int o) = none)) = true := by decide +kernel
def R31 (L : Lw) (l : List D) (S : D → Prop) : Prop := l = [.at L.q, pI 4] ∧ S = fun d => ∃ p : Pt, wrongP p = none ∧ d = pT p.list
abbrev N31 : List Str := ["draw", "most", "hosts", "every", "one", "other", "ties", "tie", "loose", "far", "rules"]
theorem sc31 : FnScope N31 ["draw", "most"] (defScope s31) := ⟨rfl, rfl, rfl, by decide +kernel, rfl, by decide +kernel, by decide +kernel⟩
section
variable {P : Program} {w : World} {W : Wd} {L : Lw} {mg : Str → Option Value} {base : Heap}
theorem sh_tiesL (l : List (Int × Int)) : SeqAt.shaped (.list (l.map tieD)) = true := by
  unfold SeqAt.shaped
  rw [PyData.canLay0, lay_ties, PyData.depth]
  have := dep_ties l
  simp
  omega
theorem eqv_nilT (l : List (Int × Int)) : PyData.eqv (.list (l.map tieD)) (.list []) = decide (l = []) := by
  cases l with
  | nil => rfl
  | cons a r => rfl
theorem some_map {α : Type} {f : α → PyData} {l : List PyData} {xs : List α} (h : Some_ l (xs.map f)) : ∃ ys : List α, l = ys.map f ∧ ys.Sublist xs := by
  obtain ⟨ys, h1, h2⟩ := List.sublist_map_iff.mp h.sub
  exact ⟨ys, h2, h1⟩
theorem ok31 {f : Addr} {fd : FuncData} (F : Fun W.K "_law_parts" "_law_parts" s31 f fd) (T : Blt2 mg) (C29 : CL P w W L mg base "_law_take" 2 ["draw", "many"] (R29 L)) (C30 : CL P w W L mg base "_law_pick" 3 ["draw", "things"] (R30 L)) :
    FnOk P w W.K mg base (L2.CX P w) 4 f fd ["draw", "most"] (spL W L (R31 L)) := by
  refine okL F sc31 (fun l o h => ?_) (fun cdv A outer s H E hr l o h => ?_)
  · obtain ⟨rfl, _⟩ := h; rfl
  · have hu : (A.deeper (envOfC "_law_parts" (defScope s31) s.heap.objs.size f cdv)).units + 64 < cLine := by have := hr.un; omega
    refine ⟨_, pss_cons (ps_set (i := 2) sc31.nd rfl (.inl rfl) (pe_cl C30 hr (pa_cons (pv 0) (pa_cons (pe_lst (pa_cons pe_int (pa_cons pe_int (pa_cons pe_int (pa_cons pe_int (pa_cons (pv 1) pa_nil)))))) pa_nil))))
      (pss_cons (ps_set (i := 3) sc31.nd rfl (.inl rfl) (pe_lst pa_nil))
      (pss_cons (ps_for (passes_of rfl) rfl (pi_range1 (by rfl) T.range (pa_cons (pv 2) pa_nil)) (pg_name (i := 4) sc31.nd rfl (.inr rfl))
        (pss_one (ps_set (i := 3) sc31.nd rfl (.inl rfl) (pe_op op_catS (pv 3) (pe_lc (own := [("other", 5)]) (g := gName 5) (tt := tYes) rfl sc31.nd (pi_range2 (by rfl) T.range (pa_cons (pe_op op_add (pv 4) pe_int) (pa_cons (pv 2) pa_nil)))
          (blkOk_by (N := N31) (sc := defScope s31) (by decide +kernel)) (fun _ _ _ _ _ => pg_name (i := 5) sc31.nd rfl (Or.inl rfl)) (fun _ _ _ _ _ => pts_nil) (fun _ _ _ _ _ => pe_tup (pa_cons (pv 4) (pa_cons (pv 5) pa_nil))))))))
      (pss_cons (ps_set (i := 6) sc31.nd rfl (.inl rfl) (pe_slice sl_list (pe_lc (own := [("tie", 7)]) (g := gName 7) rfl sc31.nd (pi_list (pv 3))
          (blkOk_by (N := N31) (sc := defScope s31) (by decide +kernel)) (fun _ _ _ _ _ => pg_name (i := 7) sc31.nd rfl (Or.inl rfl)) (fun _ _ _ _ _ => pts_one (pt_cmpR op_gt (pe_cl (W := W) C29 (hr.mono (by decide)) (pa_cons (pv 0) (pa_cons pe_int pa_nil)) rfl) pe_int (nomark _))) (fun _ _ _ _ _ => pv 7)) po_none (po_some pe_int)))
      (pss_cons (ps_set (i := 6) sc31.nd rfl (.inl rfl) (pe_ifExp (pt_cmpR (op_neD hu) (pv 6) (pe_lst pa_nil) (nomark _)) (pv 6) (pe_slice sl_list (pv 3) po_none (po_some pe_int))))
      (pss_cons (ps_set (i := 8) sc31.nd rfl (.inl rfl) (pe_slice sl_list (pe_lc (own := [("tie", 7)]) (g := gName 7) rfl sc31.nd (pi_range1 (by rfl) T.range (pa_cons (pe_callB call_len_seq (by rfl) T.len PySem.boot_len (pa_cons (pv 6) pa_nil)) pa_nil))
          (blkOk_by (N := N31) (sc := defScope s31) (by decide +kernel)) (fun _ _ _ _ _ => pg_name (i := 7) sc31.nd rfl (Or.inl rfl)) (fun _ _ _ _ _ => pts_one (pt_cmpR op_eq (pe_cl (W := W) C29 (hr.mono (by decide)) (pa_cons (pv 0) (pa_cons pe_int pa_nil)) rfl) pe_int (nomark _))) (fun _ _ _ _ _ => pv 7)) po_none (po_some pe_int)))
      (pss_cons (ps_set (i := 9) sc31.nd rfl (.inl rfl) (pe_cl C30 hr (pa_cons (pv 0) (pa_cons (pe_lst (pa_cons pe_int (pa_cons pe_int (pa_cons pe_int (pa_cons pe_int (pa_cons pe_int (pa_cons pe_int pa_nil))))))) pa_nil))))
      (pss_cons (ps_set (i := 10) sc31.nd rfl (.inl rfl) (pe_tup (pa_cons (pv 9) (pa_cons (pe_cl C30 hr (pa_cons (pv 0) (pa_cons (pe_lst (pa_cons pe_str (pa_cons pe_str (pa_cons pe_str (pa_cons pe_str pa_nil))))) pa_nil))) (pa_cons (pe_cl C30 hr (pa_cons (pv 0) (pa_cons (pe_lst (pa_cons pe_str (pa_cons pe_str (pa_cons pe_str pa_nil)))) pa_nil))) pa_nil)))))
      (pss_one (ps_ret (pe_op op_catA (pe_op op_catA (pe_tup (pa_cons (pv 2) (pa_cons (pe_callTy call_tuple_of (by rfl) T.tuple (by decide +kernel) (pa_cons (pv 6) pa_nil)) (pa_cons (pe_callTy call_tuple_of (by rfl) T.tuple (by decide +kernel) (pa_cons (pv 8) pa_nil)) pa_nil)))) (pv 10))
        (pe_tup (pa_cons (pe_cl C30 hr (pa_cons (pv 0) (pa_cons (pe_lst (pa_cons pe_int (pa_cons pe_int (pa_cons pe_int (pa_cons pe_int pa_nil))))) pa_nil))) pa_nil)))))))))))), ?_⟩
    obtain ⟨rfl, rfl⟩ := h
    -- hosts
    refine sl_seq (sl_asg (el_call (S := fun d => ∃ x ∈ ([.int 3, .int 3, .int 3, .int 2, .int 4] : List PyData), d = .py x) (EA.al (l := [.at L.q, pL [.int 3, .int 3, .int 3, .int 2, .int 4]]) (ea_cons (ed_var rfl) (ea_cons (ed_lst (l := [.int 3, .int 3, .int 3, .int 2, .int 4]) (ea_cons ed_int (ea_cons ed_int (ea_cons ed_int (ea_cons ed_int (ea_cons (ed_var rfl) ea_nil))))) (by decide)) ea_nil))) fun l hl => by subst hl; exact ⟨_, by simp, rfl, rfl⟩)) fun ds' e => ?_
    obtain ⟨d, ⟨x, hx, rfl⟩, rfl⟩ := e
    obtain ⟨h, hh, rfl⟩ : ∃ h : Nat, h ∈ ([2, 3, 4] : List Nat) ∧ x = .int h := by
      simp at hx
      rcases hx with rfl | rfl | rfl
      · exact ⟨3, by decide, rfl⟩
      · exact ⟨2, by decide, rfl⟩
      · exact ⟨4, by decide, rfl⟩
    have h4 : h ≤ 4 := (show ∀ h : Nat, h ∈ ([2, 3, 4] : List Nat) → h ≤ 4 by decide) h hh
    have e6 := ev_len h hh
    -- every
    refine sl_seq (SD.sl (sd_asg (ed_lst (l := []) ea_nil (by decide)))) fun ds' e => ?_
    subst e
    refine sl_seq (sl_forR1 (hi := (h : Int)) (fun k ds' => ∃ o, ds' = [some (.at L.q), some (pI 4), some (pI h), some (pL ((evT h k).map tieD)), o, none, none, none, none, none, none]) (ea_cons (ed_var rfl) ea_nil) ⟨none, rfl⟩ (by omega) fun k ds' hk e => ?_) fun ds' e => ?_
    · obtain ⟨o, rfl⟩ := e
      refine (SD.sl (sd_asg (d := pL ((evT h (k + 1)).map tieD)) ((ed_op (ed_var (i := 3) rfl) (ed_lcR2 (lo := (k : Int) + 1) (hi := (h : Int)) (fun _ => true) (fun j => tieD ((k : Int), (k : Int) + 1 + (j : Int))) (ea_cons (ed_op (ed_var (i := 4) rfl) ed_int rd_I) (ea_cons (ed_var (i := 2) rfl) ea_nil)) (by omega) (by omega) (fun _ _ => et_yes)
        (fun j hj _ => ed_tup (l := [.int k, .int ((k : Int) + 1 + (j : Int))]) (ea_cons (ed_var (i := 4) rfl) (ea_cons (ed_var (i := 5) rfl) ea_nil)) (show (2 : Nat) ≤ 100000 by decide))) (rd_catL ?_)).cast ?_))).imp fun d hd => ?_
      · rw [List.length_map, fm_map, List.length_map, List.length_range]
        have : (evT h k).length ≤ (evT h h).length := by
          unfold evT
          have e : List.range h = List.range k ++ (List.range (h - k)).map (k + ·) := by
            have := @List.range_add k (h - k)
            rw [show k + (h - k) = h by omega] at this
            exact this
          rw [e, List.map_append, List.flatten_append, List.length_append]
          omega
        omega
      · rw [fm_map]
        have e : evT h (k + 1) = evT h k ++ evRow h k := by
          unfold evT
          rw [List.range_succ, List.map_append, List.flatten_append]
          simp
        have e2 : ((h : Int) - ((k : Int) + 1)).toNat = h - (k + 1) := by omega
        rw [e, List.map_append, e2]
        unfold evRow
        rw [List.map_map]
        rfl
      · exact ⟨_, hd⟩
    obtain ⟨o, rfl⟩ := e
    -- ties
    refine sl_seq (sl_asg (el_cutL (hi := 5) (el_lcL (xs := (evT h h).map tieD) id (B := fun _ => True) (ed_var (i := 3) rfl) (by rw [List.length_map]; omega) (fun x hx => tl_test (el_op (el_call (S := fun d => ∃ i, 0 ≤ i ∧ i < 4 ∧ d = pI i) (EA.al (l := [.at L.q, pI 4]) (ea_cons (ed_var (i := 0) rfl) (ea_cons ed_int ea_nil))) fun l hl => by subst hl; exact ⟨4, by decide, rfl, rfl⟩) ed_int.el
      (S := fun d => ∃ b, d = pB b) fun x y hx hy => by obtain ⟨i, _, _, rfl⟩ := hx; subst hy; exact ⟨_, ⟨_, rfl⟩, rd_IB (f := fun i j => decide (j < i))⟩) fun d hd => by obtain ⟨b, rfl⟩ := hd; exact ⟨b, rfl, trivial⟩) (fun x hx => ed_var (i := 7) rfl)))) fun ds' e => ?_
    obtain ⟨d, ⟨l, rfl, hl⟩, rfl⟩ := e
    rw [List.map_id] at hl
    obtain ⟨ts, rfl, hts⟩ := some_map hl
    rw [show (5 : Int) = ((5 : Nat) : Int) from rfl, cut_take, ← List.map_take]
    have hg := List.all_eq_true.mp (List.all_eq_true.mp ties_good h hh) ts (mem_subs hts)
    unfold tiesGood at hg
    rw [Bool.and_eq_true, decide_eq_true_eq] at hg
    obtain ⟨hg1, hg2⟩ := hg
    refine sl_seq (SD.sl (sd_asg (d := pL ((tiesOf h ts).map tieD)) (ed_if (b := !(decide (ts.take 5 = []))) (et_test ((ed_op (ed_var (i := 6) rfl) (ed_lst (l := []) ea_nil (by decide)) (rd_neD (sh_tiesL _) (by decide +kernel))).cast (by rw [eqv_nilT])))
      (fun hb => (ed_var (i := 6) rfl).cast ?_) (fun hb => (ed_slL (ed_var (i := 3) rfl) eo_none (eo_some ed_int)).cast ?_)))) fun ds' e => ?_
    · have hne : ¬ ts.take 5 = [] := by simpa using hb
      unfold tiesOf
      rw [if_neg hne]
    · have hne : ts.take 5 = [] := by simpa using hb
      unfold tiesOf
      rw [if_pos hne, show (1 : Int) = ((1 : Nat) : Int) from rfl, cut_take, List.map_take, Int.toNat_natCast]
    subst e
    -- loose
    generalize htt : tiesOf h ts = tt at hg1 hg2 ⊢
    have lt : ∀ {ds : DS}, ds[6]? = some (some (pL (tt.map tieD))) → EA W (tCons (tCB (fun xs H Q => ∃ p ys, xs = [.ref p] ∧ (SqL W.K H p ys ∨ SqT W.K H p ys) ∧ Q (.int ys.length) H) (tCons (tVar 6) tNil)) tNil) ds [pI tt.length] := fun h => ea_cons ((ed_cb (ea_cons (ed_var h) ea_nil) (rda_len rfl)).cast (by rw [List.length_map])) ea_nil
    refine sl_seq (sl_asg (el_cutL (hi := 2) (el_lcR1 (hi := (tt.length : Int)) (fun k => .int k) (B := fun _ => True) (lt rfl) (by omega) (by omega) (fun x hx => tl_test (el_op (el_call (S := fun d => ∃ i, 0 ≤ i ∧ i < 2 ∧ d = pI i) (EA.al (l := [.at L.q, pI 2]) (ea_cons (ed_var (i := 0) rfl) (ea_cons ed_int ea_nil))) fun l hl => by subst hl; exact ⟨2, by decide, rfl, rfl⟩) ed_int.el
      (S := fun d => ∃ b, d = pB b) fun x y hx hy => by obtain ⟨i, _, _, rfl⟩ := hx; subst hy; exact ⟨_, ⟨_, rfl⟩, rd_eqI⟩) fun d hd => by obtain ⟨b, rfl⟩ := hd; exact ⟨b, rfl, trivial⟩) (fun x hx => ed_var (i := 7) rfl)))) fun ds' e => ?_
    obtain ⟨d, ⟨l, rfl, hl⟩, rfl⟩ := e
    obtain ⟨ks, rfl, hks⟩ := some_map hl
    rw [show (2 : Int) = ((2 : Nat) : Int) from rfl, cut_take]
    rw [Int.toNat_natCast] at hks
    have hw := List.all_eq_true.mp (List.all_eq_true.mp weak_good tt.length (List.mem_range.mpr (by omega))) ks (mem_subs hks)
    -- far
    refine sl_seq (sl_asg (el_call (S := fun d => ∃ x ∈ fars.map PyData.int, d = .py x) (EA.al (l := [.at L.q, pL (fars.map PyData.int)]) (ea_cons (ed_var rfl) (ea_cons (ed_lst (l := fars.map PyData.int) (ea_cons ed_int (ea_cons ed_int (ea_cons ed_int (ea_cons ed_int (ea_cons ed_int (ea_cons ed_int ea_nil)))))) (by decide)) ea_nil))) fun l hl => by subst hl; exact ⟨_, by decide, rfl, rfl⟩)) fun ds' e => ?_
    obtain ⟨d, ⟨x, hx, rfl⟩, rfl⟩ := e
    obtain ⟨far, hfar, rfl⟩ := List.mem_map.mp hx
    -- rules
    have pick : ∀ {ds : DS} {te : TE} (xs : List PyData), xs ≠ [] → ds[0]? = some (some (.at L.q)) → ED W te ds (pL xs) → EL W L (tCall (spL W L (R30 L)) [] E0 (tCons (tVar 0) (tCons te tNil))) ds (fun d => ∃ x ∈ xs, d = .py x) := fun xs h1 h2 h3 =>
      el_call (EA.al (l := [.at L.q, pL xs]) (ea_cons (ed_var h2) (ea_cons h3 ea_nil))) fun l hl => by subst hl; exact ⟨_, h1, rfl, rfl⟩
    refine sl_seq (sl_asg (el_tup (S := fun d => ∃ s ∈ spl4, ∃ c ∈ cry3, d = pT [.int far, .str s, .str c]) (al_cons (ED.el (ed_var (i := 9) rfl)) (al_cons (pick (spl4.map PyData.str) (by decide) rfl (ed_lst (l := spl4.map PyData.str) (ea_cons ed_str (ea_cons ed_str (ea_cons ed_str (ea_cons ed_str ea_nil)))) (by decide)))
      (al_cons (pick (cry3.map PyData.str) (by decide) rfl (ed_lst (l := cry3.map PyData.str) (ea_cons ed_str (ea_cons ed_str (ea_cons ed_str ea_nil))) (by decide))) al_nil))) fun l hl => ?_)) fun ds' e => ?_
    · obtain ⟨_, _, rfl, rfl, _, _, rfl, ⟨x1, m1, rfl⟩, _, _, rfl, ⟨x2, m2, rfl⟩, rfl⟩ := hl
      obtain ⟨s, hs, rfl⟩ := List.mem_map.mp m1
      obtain ⟨c, hc, rfl⟩ := List.mem_map.mp m2
      exact ⟨[.int far, .str s, .str c], rfl, (show (3 : Nat) ≤ 100000 by decide), s, hs, c, hc, rfl⟩
    obtain ⟨d, ⟨s', hs, c', hc, rfl⟩, rfl⟩ := e
    -- the parts
    refine sl_ret (S := fun d => ∃ x ∈ hld4.map PyData.int, d = pT ([.int h, .tuple (tt.map tieD), .tuple ((ks.map fun k : Nat => PyData.int k).take 2)] ++ [.int far, .str s', .str c'] ++ [x])) (el_op (S1 := fun d => d = pT ([.int h, .tuple (tt.map tieD), .tuple ((ks.map fun k : Nat => PyData.int k).take 2)] ++ [.int far, .str s', .str c'])) (S2 := fun d => ∃ x ∈ hld4.map PyData.int, d = pT [x])
      (ED.el (ed_op (ed_tup (l := [.int h, .tuple (tt.map tieD), .tuple ((ks.map fun k : Nat => PyData.int k).take 2)]) (ea_cons (ed_var (i := 2) rfl) (ea_cons (ed_cb (ea_cons (ed_var (i := 6) rfl) ea_nil) rda_tupOf) (ea_cons (ed_cb (ea_cons (ed_var (i := 8) rfl) ea_nil) rda_tupOf) ea_nil))) (show (3 : Nat) ≤ 100000 by decide)) (ed_var (i := 10) (d := pT [.int far, .str s', .str c']) rfl) (rd_catT (show (6 : Nat) ≤ 100000 by decide))))
      (el_tup (al_cons (pick (hld4.map PyData.int) (by decide) rfl (ed_lst (l := hld4.map PyData.int) (ea_cons ed_int (ea_cons ed_int (ea_cons ed_int (ea_cons ed_int ea_nil)))) (by decide))) al_nil) fun l hl => ?_) fun x y hx hy => ?_) fun d hd => ?_
    · obtain ⟨_, _, rfl, ⟨x1, m1, rfl⟩, rfl⟩ := hl
      exact ⟨[x1], rfl, (show (1 : Nat) ≤ 100000 by decide), x1, m1, rfl⟩
    · subst hx
      obtain ⟨x1, m1, rfl⟩ := hy
      exact ⟨_, ⟨x1, m1, rfl⟩, rd_catT (show (7 : Nat) ≤ 100000 by decide)⟩
    · obtain ⟨x1, m1, rfl⟩ := hd
      obtain ⟨o1, ho, rfl⟩ := List.mem_map.mp m1
      refine ⟨⟨.int h, .tuple (tt.map tieD), .tuple ((ks.map fun k : Nat => PyData.int k).take 2), .int far, .str s', .str c', .int o1⟩, ?_, rfl⟩
      have hr1 := of_decide_eq_true (List.all_eq_true.mp (List.all_eq_true.mp (List.all_eq_true.mp (List.all_eq_true.mp rule_good far hfar) s' hs) c' hc) o1 ho)
      have hr2 : shapeP (.int h) (.tuple (tt.map tieD)) (.tuple ((ks.map fun k : Nat => PyData.int k).take 2)) = none := by
        unfold shapeP
        have w1 : within (.int (h : Int)) 2 4 = true := by
          exact (show ∀ h : Nat, h ∈ ([2, 3, 4] : List Nat) → within (.int (h : Int)) 2 4 = true by decide) h hh
        have w2 : hostsOf (.int (h : Int)) = (h : Int) := rfl
        have w3 : lenOf (.tuple (tt.map tieD)) = (tt.length : Int) := by
          show (((tt.map tieD).length : Nat) : Int) = _
          rw [List.length_map]
        rw [w1, w2, w3, hg1, hw]
        rfl
      unfold wrongP
      rw [hr2]
      exact hr1
end
end K01

set_option Elab.async false
set_option linter.all false
set_option maxRecDepth 100000
set_option maxHeartbeats 4000000
/-! try, clause by clause: each with a name or without -/
namespace Dl
open PySem L2 PySem.Spec PyProof.Rows
/-- an exception stands at a, and this body's clauses are asked -/
structure Lands (X : Cx) (pins : List (Addr × Obj)) (σ : L2.St) (H : Hp) (a : Addr) (cls : Value) (d : Option Addr) (B : Heap) (sI s : Shared) : Prop where
  J : Inv X pins σ H sI
  nb : ∀ b o, sI.heap.get? b = some o → b ∉ frs X.stack → B.get? b = some o
  up : sI.heap.UpToSlots s.heap
  fl : HandSPX.FlyingZ B (X.env :: X.outer) a (Zc cls d) s.heap
  na : H a = none
  os : s.os = sI.os
  ag : AllBare s.gens
def HBy (X : Cx) (hs : List ExceptHandler) (wf : Ends → WX) : Prop := ∀ (D : Ends) (pins : List (Addr × Obj)) (σ : L2.St) (H : Hp) (a : Addr) (cls : Value) (d : Option Addr) (B : Heap) (sI s : Shared), Lands X pins σ H a cls d B sI s → wf D cls d σ H →
  wpAny (model X.prog X.w) X.A (handleBy (.ref a) X.env hs) (SP X pins D) X.xe s
section
variable {X : Cx} {pins : List (Addr × Obj)} {σ : L2.St} {H : Hp} {a : Addr} {cls : Value} {d : Option Addr} {B : Heap} {sI s : Shared}
theorem Lands.inv (l : Lands X pins σ H a cls d B sI s) : Inv X pins σ H s := l.J.landed l.nb l.fl.1 l.up l.os l.ag
/-- the suite's context -/
theorem Lands.into (l : Lands X pins σ H a cls d B sI s) (hf : X.env.frame = some X.env.locals) : ∃ (oe : Obj) (vs : Array Value), s.heap.get? a = some oe ∧ Zc cls d oe ∧ oe.data = .fields vs ∧ Inv (X.suite a ((a, oe) :: (X.pn ++ pins))) [] σ H s := by
  obtain ⟨oe, vs, he, hz, hd⟩ := l.fl.there
  have nfr : a ∉ frs (X.env :: X.outer) := fun hm => by obtain ⟨_, o, e, hn⟩ := l.fl.2.2.1.mem hm; rw [he] at e; cases e; exact hn _ hd
  refine ⟨oe, vs, he, hz, hd, l.inv.suite he hd l.na (fun z => nfr (List.mem_filterMap.mpr ⟨X.env, List.mem_cons_self, by rw [hf, z]⟩)) fun hm => ?_⟩
  obtain ⟨e, h1, h2⟩ := List.mem_filterMap.mp hm
  exact nfr (List.mem_filterMap.mpr ⟨e, List.mem_cons_of_mem _ h1, h2⟩)
/-- the flight is put down once more -/
theorem Lands.again {A : Around} {E : Value → Shared → Prop} {Q : Unit → Shared → Prop} (l : Lands X pins σ H a cls d B sI s) (h : ∀ s', Lands X pins σ H a cls d B sI s' → Q () s') : wpAny (model X.prog X.w) A (setFlight (.ref a) none) Q E s :=
  HandSPX.lands_againZ l.fl fun h4 f4 u4 => h { s with heap := h4 } ⟨l.J, l.nb, l.up.trans u4, f4, l.na, l.os, l.ag⟩
/-- no clause is left: it goes on -/
theorem hb_nil {Wout : WX} (hs : X.stack = X.env :: X.outer) (hf : X.env.frame = some X.env.locals) (tk : Takes X Wout) : HBy X [] (fun _ => Wout) := fun D pins σ H a cls d B sI s l w => by
  obtain ⟨_, _, _, oe, vs, T, oT, ts', he, hz, hd, h1, hr⟩ := id l.fl
  refine wpAny_handleBy_nil ?_
  have fin : wpAny (model X.prog X.w) X.A (setFlight (.ref a) X.env.frame) (fun _ s4 => wpAny (model X.prog X.w) X.A (throw (.ref a) : Sem Flow) (SP X pins D) X.xe s4) X.xe s := by
    rw [hf]; exact HandSPX.setFlight_upZ l.fl fun h4 hh4 u4 => wpAny_throw (tk _ _ ⟨a, B, sI, pins, σ, H, cls, d, rfl, l.J, l.nb, l.up.trans u4, .inr (.inr (by rw [hs]; exact hh4)), l.na, l.os, l.ag, w⟩)
  unfold PySem.passOn; refine wpAny_bind (wpAny_field he hd h1 ?_); rw [if_neg (by simp)]
  first | exact wpAny_bind (wpAny_pure (wpAny_bind fin)) | exact wpAny_bind fin
/-- the class that a clause names is read -/
theorem Lands.test {x : Str} {c : Value} {np : Pos} {Q E : Value → Shared → Prop} (l : Lands X pins σ H a cls d B sI s) (hf : X.env.frame = some X.env.locals) (hc : Names X x c) (q : Q c s) : wpAny (model X.prog X.w) (X.A.mark (some (.ref a))) (eval (.Name x np) X.env) Q E s := by
  obtain ⟨oe, vs, he, hz, hd, S⟩ := l.into hf
  obtain ⟨hg, hdbg, hm | ⟨hm, hv, hnn⟩⟩ := hc
  · exact ld_glob (X := X.suite a ((a, oe) :: (X.pn ++ pins))) S hg hm q hdbg
  · exact ld_blt (X := X.suite a ((a, oe) :: (X.pn ++ pins))) S hg hm hv q hnn hdbg
theorem Lands.ty (l : Lands X pins σ H a cls d B sI s) : PySem.W.Looks (model X.prog X.w) s.heap (typeOf (.ref a)) cls := by
  obtain ⟨oe, vs, he, hz, hd⟩ := l.fl.there
  exact fun A Q E s k q => wpAny_typeOf_ref (k _ _ he) (by rw [hz.1]; exact q)
/-- except x: .. -/
theorem hb_cons {x : Str} {c : Value} {b₀ : Stmt} {suite : List Stmt} {np pos : Pos} {hds : List ExceptHandler} {ts : Addr → Value → Option Addr → TS} {wr : Ends → WX} (hf : X.env.frame = some X.env.locals) (hc : Names X x c)
    (hsu : ∀ (a : Addr) (oe : Obj) (cls : Value) (d : Option Addr) (pn : List (Addr × Obj)), Zc cls d oe → (∃ vs, oe.data = .fields vs) → PSs (X.suite a ((a, oe) :: pn)) (b₀ :: suite) (ts a cls d)) (r : HBy X hds wr) :
    HBy X (.ExceptHandler (some (.Name x np)) none (b₀ :: suite) pos :: hds) (fun D cls d σ H => ∃ b, PySem.W.exmOne X.K cls c = some b ∧ (b = true → ∀ a, H a = none → ts a cls d D σ H) ∧ (b = false → wr D cls d σ H)) := fun D pins σ H a cls d B sI s l w => by
  obtain ⟨b, hb, hy, hn⟩ := w
  refine wpAny_handleBy_cons (codeAny_handlers_test (l.test hf hc ((PySem.W.exm_one (M := model X.prog X.w) l.inv.kIn l.ty hb).here ?_))) (by intro q; cases q)
  cases b with
  | false => exact r D pins σ H a cls d B sI s l (hn rfl)
  | true =>
    refine codeAny_handlers_suite (l.again fun s4 l4 => ?_)
    obtain ⟨oe, vs, he, hz, hd, S⟩ := l4.into hf
    refine wpAny_mono ((hsu a oe cls d (X.pn ++ pins) hz ⟨_, hd⟩).run [] s4 σ H D S (hy rfl a l.na)) (fun f s6 z => ?_) fun _ _ z => False.elim z
    have ok := l.J.ok
    cases f with
    | ret u => obtain ⟨v6, σ6, H6, S6, r6, q6⟩ := z; exact ⟨_, _, _, S6.unsuite ok, r6, q6⟩
    | next => obtain ⟨σ6, H6, S6, q6⟩ := z; exact ⟨_, _, S6.unsuite ok, q6⟩
    | brk => obtain ⟨σ6, H6, S6, q6⟩ := z; exact ⟨_, _, S6.unsuite ok, q6⟩
    | cont => obtain ⟨σ6, H6, S6, q6⟩ := z; exact ⟨_, _, S6.unsuite ok, q6⟩
/-- except x as n: .. (slot i is n's) -/
theorem hb_as {x n : Str} {i : Nat} {c : Value} {b₀ : Stmt} {suite : List Stmt} {np pos : Pos} {hds : List ExceptHandler} {ts : Addr → Value → Option Addr → TS} {wr : Ends → WX} (hf : X.env.frame = some X.env.locals) (hN : X.N.Nodup) (hi : X.N[i]? = some n) (hln : X.env.kindOf n = some .local) (hc : Names X x c)
    (hsu : ∀ (a : Addr) (oe : Obj) (cls : Value) (d : Option Addr) (pn : List (Addr × Obj)), Zc cls d oe → (∃ vs, oe.data = .fields vs) → PSs (X.suite a ((a, oe) :: pn)) (b₀ :: suite) (ts a cls d)) (r : HBy X hds wr) :
    HBy X (.ExceptHandler (some (.Name x np)) (some n) (b₀ :: suite) pos :: hds) (fun D cls d σ H => ∃ b, PySem.W.exmOne X.K cls c = some b ∧
      (b = true → ∀ a, H a = none → σ.length = X.N.length → ts a cls d { nx := fun σ' H' => D.nx (σ'.set i none) H', rt := D.rt, bk := fun σ' H' => D.bk (σ'.set i none) H', ct := fun σ' H' => D.ct (σ'.set i none) H' } (σ.set i (some (.ref a))) H) ∧ (b = false → wr D cls d σ H)) := fun D pins σ H a cls d B sI s l w => by
  obtain ⟨b, hb, hy, hn⟩ := w
  refine wpAny_handleBy_cons (codeAny_handlers_test (l.test hf hc ((PySem.W.exm_one (M := model X.prog X.w) l.inv.kIn l.ty hb).here ?_))) (by intro q; cases q)
  cases b with
  | false => exact r D pins σ H a cls d B sI s l (hn rfl)
  | true =>
    refine codeAny_handlers_suite_as (l.again fun s4 l4 => ?_)
    obtain ⟨oe, vs, he, hz, hd, S⟩ := l4.into hf
    refine store_ok (X := X.suite a ((a, oe) :: (X.pn ++ pins))) (v := .ref a) S hN hi (.inl hln) rfl (fun s5 S5 => ?_) (.inr hln)
    refine wpAny_mono ((hsu a oe cls d (X.pn ++ pins) hz ⟨_, hd⟩).run [] s5 _ H _ S5 (hy rfl a l.na l.J.len)) (fun f s6 z => ?_) fun _ _ z => False.elim z
    have go : ∀ {σ6 : L2.St} {H6 : Hp} {Q : Shared → Prop}, Inv (X.suite a ((a, oe) :: (X.pn ++ pins))) [] σ6 H6 s6 → (∀ s7, Inv X pins (σ6.set i none) H6 s7 → Q s7) → wpAny (model X.prog X.w) X.A (do bindName X.env n .none; unbindBehindTheSuite X.env n pos) (fun _ s7 => Q s7) X.xe s6 :=
      fun S6 hq => gone_ok (S6.unsuite l.J.ok) hN hi hln hq
    cases f with
    | ret u => obtain ⟨v6, σ6, H6, S6, r6, q6⟩ := z; exact go S6 fun s7 J7 => ⟨_, _, _, J7, r6, q6⟩
    | next => obtain ⟨σ6, H6, S6, q6⟩ := z; exact go S6 fun s7 J7 => ⟨_, _, J7, q6⟩
    | brk => obtain ⟨σ6, H6, S6, q6⟩ := z; exact go S6 fun s7 J7 => ⟨_, _, J7, q6⟩
    | cont => obtain ⟨σ6, H6, S6, q6⟩ := z; exact go S6 fun s7 J7 => ⟨_, _, J7, q6⟩
/-- try: body / the clauses -/
theorem ps_try_by {body : List Stmt} {h₀ : ExceptHandler} {hds : List ExceptHandler} {pos : Pos} {tb : WX → TS} {wf : Ends → WX} (hs : X.stack = X.env :: X.outer) (hf : X.env.frame = some X.env.locals)
    (hb : ∀ (W : WX) (pn : List (Addr × Obj)) (xe : Value → Shared → Prop), Takes (X.tr pn xe) W → PassesOwn (model X.prog X.w) X.A X.env xe → PSs (X.tr pn xe) body (tb W)) (hh : HBy X (h₀ :: hds) wf) :
    PS X (.Try body (h₀ :: hds) [] [] pos) (fun D σ H => tb (wf D) D σ H) := ⟨fun pins s σ H D I h => by
  refine wpAny_Try_except (wpAny_mono ((hb (wf D) (X.pn ++ pins) _ (fun u s' xx => ?_) PassesOwn.looking).run [] s σ H D (I.toTry _) h) (fun f s1 z => ?_) fun e s1 he => he)
  · obtain ⟨a, B, sI, pins', σ', H', cls, d, rfl, J', nb, up, sky, na, os, ag, w⟩ := xx
    refine Sky.land Zc.steady (by rw [I.ok.frames, hs]) hf (by rw [← hs]; exact sky) fun h3 fl3 up3 => hh D pins σ' H' a cls d B sI { s' with heap := h3 } ⟨J'.ofTry I.ok, nb, up.trans up3, fl3, na, os, ag⟩ w
  · have ok := I.ok
    cases f with
    | ret u => obtain ⟨v, σ', H', J', r, q⟩ := z; exact ⟨v, σ', H', J'.ofTry ok, r, q⟩
    | next => obtain ⟨σ', H', J', q⟩ := z; exact wpAny_execs_nil ⟨σ', H', J'.ofTry ok, q⟩
    | brk => obtain ⟨σ', H', J', q⟩ := z; exact ⟨σ', H', J'.ofTry ok, q⟩
    | cont => obtain ⟨σ', H', J', q⟩ := z; exact ⟨σ', H', J'.ofTry ok, q⟩⟩
end
end Dl

set_option Elab.async false
set_option linter.all false
set_option maxRecDepth 100000
set_option maxHeartbeats 4000000
namespace K01
open PySem L2 Dl PySem.Spec PyProof.Rows
open Evl (Ex fresh_back sz_of sz_lt ex_l ex_t sq_of st_of)
abbrev s33 : Stmt := top 33
theorem sc33 : FnScope ["ask", "error"] ["ask"] (defScope s33) := ⟨rfl, rfl, rfl, by decide +kernel, rfl, by decide +kernel, by decide +kernel⟩
/-- how _law_wrong takes an error -/
def wrongX (W : Wd) (Q : VK) : XK := fun cls d H' => (∃ dd v, cls = .ref (W.cl 1) ∧ d = some dd ∧ H' dd = some (.xd [(("part" : Str), v)]) ∧ Q v H') ∨ (cls = .ref (W.cl 2) ∧ Q (.str "tie") H')
def TTw (W : Wd) : (XK → Hp → VK → Prop) → Hp → VK → Prop := fun tl H Q => tl (wrongX W Q) H fun _ H' => Q (.str "") H'
/-- what K says of the two error classes, as clauses ask it -/
structure Exm (K : PySem.W.Frag) (W : Wd) : Prop where
  t1 : PySem.W.exmOne K (.ref (W.cl 1)) (.ref (W.cl 1)) = some true
  t2 : PySem.W.exmOne K (.ref (W.cl 2)) (.ref (W.cl 1)) = some false
  t3 : PySem.W.exmOne K (.ref (W.cl 2)) (.ref (W.cl 2)) = some true
theorem wrong_gives {X : Cx} {W : Wd} {g fB : Addr} {cdg : Value} {q : Str} (hK : X.K = W.K) (B : PySem.ExP.SupTxt X.prog X.K X.mg (W.cl 1) fB) (M : Exm X.K W) (g2 : X.mg "BadTie" = some (.ref (W.cl 2))) :
    LamX.GivesTo X ["ask", "error"] "_law_wrong" (defScope s33) g cdg (defBody s33) "ask" q (TTw W) := by
  intro f c' s H Q tl act hc h
  refine ⟨_, pss_cons (ps_try_by (X := (cxOf C8.CX0 X.prog X.w X.K X.mg X.base ["ask", "error"] "_law_wrong" (defScope s33) g cdg X.A X.stack s H C8.E0).nox)
      (tb := fun Wx D σ H => ∃ Ech : XK, (∀ cls d σ' H', Ech cls d H' → Wx cls d σ' H') ∧ σ[0]? = some (some (.ref f)) ∧ H c' = some (LamX.CodeO c' q) ∧ tl Ech H fun _ H' => D.nx σ H') rfl rfl (fun Wx pn xe tk _ => ?_)
      (hb_as (i := 1) (ts := fun a cls d => tRet (tByPart (W.cl 1) a cls d (tVar 1))) rfl sc33.nd rfl rfl ⟨rfl, by decide, .inl B.mgC⟩ (fun a oe cls d pn hz hf => pss_one (ps_ret (pe_byPart B hz hf (pv 1)))) (hb_cons (ts := fun a cls d => tRet (tC (.str "tie"))) rfl ⟨rfl, by decide, .inl g2⟩ (fun a oe cls d pn hz hf => pss_one (ps_ret pe_str)) (hb_nil rfl rfl takes0)))) (pss_one (ps_ret pe_str)), ?_⟩
  · refine ⟨fun pins s' σ H' D I h' => ?_⟩
    obtain ⟨Ech, hW, h1, h2, h3⟩ := h'
    exact (pss_one (ps_expr (act Wx pn xe Ech _ _ tk hW))).run pins s' σ H' D I ⟨h1, h2, h3⟩
  · refine ⟨wrongX W Q, fun cls d σ' H' hx => ?_, rfl, hc, h⟩
    rcases hx with ⟨dd, v, rfl, rfl, hd, hq⟩ | ⟨rfl, hq⟩
    · exact ⟨true, M.t1, fun _ a ha hl => ⟨.ref a, List.getElem?_set_self (show 1 < σ'.length by rw [hl]; exact (show (1 : Nat) < 2 by decide)), rfl, rfl, dd, v, rfl, hd, hq⟩, fun z => by cases z⟩
    · exact ⟨false, M.t2, fun z => (by cases z), fun _ => ⟨true, M.t3, fun _ a ha => hq, fun z => by cases z⟩⟩
end K01
namespace K01
open PySem L2 Dl PySem.Spec PyProof.Rows
open Evl (Ex fresh_back sz_of sz_lt ex_l ex_t sq_of st_of)
/-- what _law_wrong says of an outcome -/
def wrongD : Res → Option D
  | .ok _ => some (pS "")
  | .error (.own 1 f m) => if f = "part" then some (.py m) else none
  | .error (.pl 2) => some (pS "tie")
  | .error _ => none
theorem LH.lam {W : Wd} {L : Lw} {P H H1 : Hp} (h : LH W L P H) (e : LamX.ExtN H H1) (t : LamX.Tabs L.T H1) : LS W L P H P H1 := by
  obtain ⟨n, hn⟩ := h.dr
  refine ⟨Ex.refl P, ⟨fun a o q => e a o (h.ph a o q) (fun ps z => h.nt a ps (by rw [q, z])), ⟨n, e _ _ hn (fun ps z => by cases z)⟩, h.dq, t, h.tn, h.tq, h.sc, h.nt⟩, fun a o q _ nt => e a o q nt, fun _ _ _ _ _ => rfl⟩
theorem el_wrong {W : Wd} {L : Lw} {te : XK → TE} {ds : DS} {o : Res} {d : D} (hb : ∀ E, EX W E (te E) ds o) (ho : wrongD o = some d) : EL W L (LamX.tLam L.T (TTw W) te) ds (· = d) := fun σ P H lh env Q q =>
  ⟨lh.tb, fun H1 e t => by
    have u := LH.lam lh e t
    refine hb _ σ P H1 u.lh.ph env _ (fun d' hd v P' H' s r => ?_) fun er he cls dd P' H' s r => ?_
    · subst hd
      cases ho
      exact q _ _ P' H' rfl (u.trans (u.lh.ls s)) (Dp.str _)
    · subst he
      cases er with
      | own c f m =>
        obtain ⟨e1, dd', v, e2, hd, rv⟩ := r
        by_cases hc : c = 1
        · subst hc
          by_cases hf : f = "part"
          · subst hf
            have e : wrongD (.error (.own 1 "part" m)) = some (.py m) := by
              show (if ("part" : Str) = "part" then some (D.py m) else none) = _
              rw [if_pos rfl]
            have : d = .py m := Option.some.inj (ho.symm.trans e)
            subst this
            exact .inl ⟨dd', v, e1, e2, hd, q _ v P' H' rfl (u.trans (u.lh.ls s)) rv⟩
          · rw [show wrongD (.error (.own 1 f m)) = none from if_neg hf] at ho
            cases ho
        · have : wrongD (.error (.own c f m)) = none := by
            match c, hc with
            | 0, _ => rfl
            | 1, hc => exact absurd rfl hc
            | n + 2, _ => rfl
          rw [this] at ho
          cases ho
      | pl c =>
        by_cases hc : c = 2
        · subst hc
          cases ho
          exact .inr ⟨r, q _ _ P' H' rfl (u.trans (u.lh.ls s)) (Dp.str _)⟩
        · have : wrongD (.error (.pl c)) = none := by
            match c, hc with
            | 0, _ => rfl
            | 1, _ => rfl
            | 2, hc => exact absurd rfl hc
            | n + 3, _ => rfl
          rw [this] at ho
          cases ho
      | bi n => cases ho⟩
/-- _law_wrong as its callers know it -/
structure WrF (P : Program) (W : Wd) (mg : Str → Option Value) : Prop where
  fn : ∃ g fd, Fun W.K "_law_wrong" "_law_wrong" s33 g fd ∧ mg "_law_wrong" = some (.ref g)
  B : ∃ fB, PySem.ExP.SupTxt P W.K mg (W.cl 1) fB
  M : Exm W.K W
  g2 : mg "BadTie" = some (.ref (W.cl 2))
/-- what a def that makes lambdas knows of its code and its table -/
structure LamC (L : Lw) (base : Heap) (mg : Str → Option Value) (c Pt : Addr) (q : Str) : Prop where
  TB : LamX.TabB base mg c Pt
  mT : (Pt, q) ∈ L.T
  un : ∀ p ∈ L.T, p.1 = Pt → p.2 = q
theorem pe_wrong {X : Cx} {W : Wd} {L : Lw} {c Pt : Addr} {k : Nat} {params : Arguments} {body : Expr} {scope : Scope} {t : XK → TE} {p lpos pos : Pos} (C : WrF X.prog W X.mg) (LC : LamC L X.base X.mg c Pt (X.env.qual ++ "<lambda>")) (hr : Room (k + 2) X.A)
    (hbody : ∀ (A : Around) (outer : List Env) (s : Shared) (H : Hp) (E : XK) (f c' : Addr), Room k (A.deeper (LamX.lamEnv X scope s.heap.objs.size f c')) → PE (LamX.lamCx X A outer s H E scope f c') body (t E)) (S : LamX.LamS X.env.scope scope) (hcode : X.env.code = .ref c := by rfl) (hK : X.K = W.K := by rfl) (hg : Gl X "_law_wrong" := by rfl)
    (hdef : defaultsOf params X.env = ([], []) := by rfl) (hbind : ∀ (q : Str) (cl : List (Str × Addr)) (pm cv ctv : Value), bindArgs (PySem.W.kla_fn "<lambda>" q params body scope cl pm cv ctv) ⟨[], []⟩ = pure [] := by intros; rfl) :
    PE X (.Call (.Name "_law_wrong" p) [.Lambda params body scope lpos] [] pos) (LamX.tLam L.T (TTw W) t) := by
  obtain ⟨g, fd, F, hm⟩ := C.fn
  obtain ⟨fB, B⟩ := C.B
  have bn : L2.Binds W.K fd ["ask"] [] := F.binds (ps := ["ask"]) fun kV doc pm an cdv ct us h => by
    match us, h with
    | [u], _ => rfl
  obtain ⟨oc, od, kV, doc, pm, an, cdv, ct, osl, rfl, lk, hcd⟩ := F.ex
  have kp := F.kp
  have M := C.M
  rw [← hK] at lk hcd kp bn B M
  exact LamX.pe_lamcall (Ng := ["ask", "error"]) hg hm kp lk hcd bn sc33 rfl (.inl rfl) (wrong_gives hK B M C.g2) LC.TB hcode LC.mT LC.un hr S hdef hbind hbody
end K01

set_option Elab.async false
set_option linter.all false
set_option maxRecDepth 100000
set_option maxHeartbeats 1000000
namespace K01
open PySem L2 Dl PySem.Spec PyProof.Rows
open Evl (Ex fresh_back sz_of sz_lt ex_l ex_t sq_of st_of)
abbrev s34 : Stmt := top 34
/-- Net of two arguments, its default () at T0 -/
structure Net2 (P : Program) (w : World) (W : Wd) (mg : Str → Option Value) (base : Heap) (T0 : Addr) : Prop where
  c : NetC W mg
  ini : ∃ (f : Addr) (fd : FuncData) (ds : List Value), FnOk P w W.K mg base (L2.CX P w) 6 f fd netP (spNet W (W.cl 1)) ∧ Mk W.K (W.cl 0) f ∧ Vals [V.ref T0, .int 4, .str "plain", .str "still", .int 0] ds ∧ Binds W.K fd netP ds
  hT : ∀ P0 : Hp, Dp W.K P0 (.ref T0) (.tuple [])
theorem NetF.two {P : Program} {w : World} {W : Wd} {mg : Str → Option Value} {base : Heap} (N : NetF P w W mg base) : ∃ T0, Net2 P w W mg base T0 := by
  obtain ⟨f, fd, T, ds, g, h1, h2, h3, h4, h5, h6⟩ := N.ini
  exact ⟨T, N.c, ⟨f, fd, ds, h1, h2, h3, h4⟩, h5⟩
theorem pe_two {X : Cx} {W : Wd} {p pos : Pos} {e : Expr} {es : List Expr} {t : TA} {E : XK} {T0 : Addr} (N : Net2 X.prog X.w W X.mg X.base T0) (hr : Room 7 X.A) (hx : Passes (L2.CX X.prog X.w) X E) (ha : PA X (e :: es) t) (hK : X.K = W.K := by rfl) (hg : Gl X "Net" := by rfl)
    (he : starEach (e :: es) X.env = (false, eval e X.env) :: starEach es X.env := by rfl) (hpl : (backTo pos (starEach es X.env)).any (·.1) = false := by rfl) :
    PE X (.Call (.Name "Net" p) (e :: es) [] pos) (tMake (W.cl 0) (spNet W (W.cl 1)) [V.ref T0, .int 4, .str "plain", .str "still", .int 0] E t) := by
  obtain ⟨f, fd, ds, h1, h2, h3, h4⟩ := N.ini
  have hm := N.c.g
  rw [← hK] at h1 h2 h4
  exact pe_make h2 h1 hr hg hm h4 h3 hx ha (by decide) he hpl
abbrev t01 : PyData := .tuple [.int 0, .int 1]
def bad1 (h : Int) : List PyData := [.tuple [], .tuple [.tuple [.int 0, .int h]], .tuple [.tuple [.int 0, .int 0]], .tuple [.tuple [.int 1, .int 0]], .tuple [t01, t01], .list [t01], .tuple [.tuple [.int 0, .bool true]], .tuple [.tuple [.int 0]], .tuple [.tuple [.int (-1), .int 0]], .int 5, .none]
def bad2 : List PyData := [.tuple [.tuple [.int 0, .int 1, .int 1]], .tuple [.tuple [.str "0", .int 1]], .tuple [.list [.int 0, .int 1]], .tuple [t01, t01, t01, t01, t01, t01]]
theorem bad_good : ([2, 4] : List Int).all (fun h => (bad1 h ++ bad2).all fun b => decide (wrongP (dfl (.int h) b) = some "ties")) = true := by decide +kernel
theorem good_good : ([2, 4] : List Int).all (fun h => decide (wrongP (dfl (.int h) (.tuple [.tuple [.int 0, .int (h - 1)]])) = none)) = true := by decide +kernel
abbrev q34 : Str := ("_law_ties_right" : Str) ++ ".<locals>."
def R34 (l : List D) (S : D → Prop) : Prop := ∃ h : Int, h ∈ ([2, 4] : List Int) ∧ l = [pI h] ∧ S = fun d => d = pB true
abbrev N34 : List Str := ["hosts", "last", "bad", "ties"]
theorem sc34 : FnScope N34 ["hosts"] (defScope s34) := ⟨rfl, rfl, rfl, by decide +kernel, rfl, by decide +kernel, by decide +kernel⟩
section
variable {P : Program} {w : World} {W : Wd} {L : Lw} {mg : Str → Option Value} {base : Heap}
theorem ok34 {f c Pt : Addr} {fd : FuncData} (F : FunC W.K "_law_ties_right" "_law_ties_right" s34 f fd c) (T : Blt2 mg) (N : NetF P w W mg base) (C : WrF P W mg) (LC : LamC L base mg c Pt (q34 ++ "<lambda>")) :
    FnOk P w W.K mg base (L2.CX P w) 10 f fd ["hosts"] (spL W L R34) := by
  refine okLC F sc34 (fun l o h => ?_) (fun A outer s H E hr l o h => ?_)
  · obtain ⟨i, _, rfl, _⟩ := h; rfl
  · obtain ⟨T0, N2⟩ := N.two
    refine ⟨_, pss_cons (ps_set (i := 1) sc34.nd rfl (.inr rfl) (pe_op op_sub (pv 0) pe_int))
      (pss_cons (ps_set (i := 2) sc34.nd rfl (.inl rfl) (pe_lst (pa_cons (pe_tup pa_nil) (pa_cons (pe_tup (pa_cons (pe_tup (pa_cons pe_int (pa_cons (pv 0) pa_nil))) pa_nil)) (pa_cons (pe_tup (pa_cons (pe_tup (pa_cons pe_int (pa_cons pe_int pa_nil))) pa_nil))
          (pa_cons (pe_tup (pa_cons (pe_tup (pa_cons pe_int (pa_cons pe_int pa_nil))) pa_nil)) (pa_cons (pe_tup (pa_cons (pe_tup (pa_cons pe_int (pa_cons pe_int pa_nil))) (pa_cons (pe_tup (pa_cons pe_int (pa_cons pe_int pa_nil))) pa_nil)))
          (pa_cons (pe_lst (pa_cons (pe_tup (pa_cons pe_int (pa_cons pe_int pa_nil))) pa_nil)) (pa_cons (pe_tup (pa_cons (pe_tup (pa_cons pe_int (pa_cons pe_bl pa_nil))) pa_nil)) (pa_cons (pe_tup (pa_cons (pe_tup (pa_cons pe_int pa_nil)) pa_nil))
          (pa_cons (pe_tup (pa_cons (pe_tup (pa_cons (pe_un un_neg pe_int) (pa_cons pe_int pa_nil))) pa_nil)) (pa_cons pe_int (pa_cons pe_non pa_nil)))))))))))))
      (pss_cons (ps_set (i := 2) sc34.nd rfl (.inl rfl) (pe_op op_catS (pv 2) (pe_lst (pa_cons (pe_tup (pa_cons (pe_tup (pa_cons pe_int (pa_cons pe_int (pa_cons pe_int pa_nil)))) pa_nil)) (pa_cons (pe_tup (pa_cons (pe_tup (pa_cons pe_str (pa_cons pe_int pa_nil))) pa_nil))
          (pa_cons (pe_tup (pa_cons (pe_lst (pa_cons pe_int (pa_cons pe_int pa_nil))) pa_nil)) (pa_cons (pe_op op_repT (pe_tup (pa_cons (pe_tup (pa_cons pe_int (pa_cons pe_int pa_nil))) pa_nil)) pe_int) pa_nil)))))))
      (pss_cons (ps_if (pt_cmpR op_ne (pe_wrong (k := 7) C LC hr (fun A outer s H E f c' hr2 => pe_two (W := W) N2 hr2 (passes_call (takes_of rfl rfl rfl rfl) fun _ _ _ _ z => z) (pa_cons (pv 0) (pa_cons (pe_tup (pa_cons (pe_tup (pa_cons pe_int (pa_cons (pv 1) pa_nil))) pa_nil)) pa_nil))) (LamX.lamS_by (sc := defScope s34) (by decide +kernel))) pe_str (nomark _)) (pss_one (ps_ret pe_bl)) pss_nil)
      (pss_one (ps_ret (pe_callB (cr_all rfl) (by rfl) T.all (by decide +kernel) (pa_cons (pe_lc (own := [("ties", 3)]) (g := gName 3) (tt := tYes) rfl sc34.nd (pi_list (pv 2))
          (blkOk_by (N := N34) (sc := defScope s34) (by decide +kernel)) (fun _ _ _ _ _ => pg_name (i := 3) sc34.nd rfl (Or.inr rfl)) (fun _ _ _ _ _ => pts_nil)
          (fun _ _ _ _ _ => pe_cmpR op_eq (pe_wrong (k := 7) (W := W) (L := L) C LC hr (fun A outer s H E f c' hr2 => pe_two (W := W) N2 hr2 (passes_call (takes_of rfl rfl rfl rfl) fun _ _ _ _ z => z) (pa_cons (pv 0) (pa_cons (pv 3) pa_nil))) (LamX.lamS_by (by rfl)) rfl rfl) pe_str (nomark _))) pa_nil)))))))
      , ?_⟩
    obtain ⟨h, hh, rfl, rfl⟩ := h
    refine sl_seq (SD.sl (sd_asg (d := pI (h - 1)) (ed_op (ed_var (i := 0) rfl) ed_int rd_I))) fun ds' e => ?_
    subst e
    have t2 : ∀ {ds : DS} {x y : TE} {a b : PyData}, ED W x ds (.py a) → ED W y ds (.py b) → ED W (tTup (tCons x (tCons y tNil))) ds (.py (.tuple [a, b])) := fun h1 h2 => ed_tup (l := [_, _]) (ea_cons h1 (ea_cons h2 ea_nil)) (show (2 : Nat) ≤ 100000 by decide)
    have t1 : ∀ {ds : DS} {x : TE} {a : PyData}, ED W x ds (.py a) → ED W (tTup (tCons x tNil)) ds (.py (.tuple [a])) := fun h1 => ed_tup (l := [_]) (ea_cons h1 ea_nil) (show (1 : Nat) ≤ 100000 by decide)
    have l1 : ∀ {ds : DS} {x : TE} {a : PyData}, ED W x ds (.py a) → ED W (tLst (tCons x tNil)) ds (.py (.list [a])) := fun h1 => ed_lst (l := [_]) (ea_cons h1 ea_nil) (show (1 : Nat) ≤ 100000 by decide)
    have l2 : ∀ {ds : DS} {x y : TE} {a b : PyData}, ED W x ds (.py a) → ED W y ds (.py b) → ED W (tLst (tCons x (tCons y tNil))) ds (.py (.list [a, b])) := fun h1 h2 => ed_lst (l := [_, _]) (ea_cons h1 (ea_cons h2 ea_nil)) (show (2 : Nat) ≤ 100000 by decide)
    refine sl_seq (SD.sl (sd_asg (ed_lst (l := bad1 h) (ea_cons (ed_tup (l := []) ea_nil (by decide)) (ea_cons (t1 (t2 ed_int (ed_var (i := 0) rfl))) (ea_cons (t1 (t2 ed_int ed_int)) (ea_cons (t1 (t2 ed_int ed_int)) (ea_cons (t2 (t2 ed_int ed_int) (t2 ed_int ed_int))
      (ea_cons (l1 (t2 ed_int ed_int)) (ea_cons (t1 (t2 ed_int ed_bl)) (ea_cons (t1 (t1 ed_int)) (ea_cons (t1 (t2 (ed_neg ed_int) ed_int)) (ea_cons ed_int (ea_cons ed_non ea_nil))))))))))) (show (11 : Nat) ≤ 100000 by decide)))) fun ds' e => ?_
    subst e
    refine sl_seq (SD.sl (sd_asg (ed_op (ed_var (i := 2) rfl) (ed_lst (l := bad2) (ea_cons (t1 (ed_tup (l := [_, _, _]) (ea_cons ed_int (ea_cons ed_int (ea_cons ed_int ea_nil))) (show (3 : Nat) ≤ 100000 by decide))) (ea_cons (t1 (t2 ed_str ed_int)) (ea_cons (t1 (l2 ed_int ed_int))
      (ea_cons (ed_op (t1 (t2 ed_int ed_int)) ed_int (rd_rep (xs := [t01]) (k := 6) (by simp) (by simp) (by decide) (by decide))) ea_nil)))) (show (4 : Nat) ≤ 100000 by decide)) (rd_catL (show (15 : Nat) ≤ 100000 by decide))))) fun ds' e => ?_
    subst e
    have hgood := of_decide_eq_true (List.all_eq_true.mp good_good h hh)
    have hbad := List.all_eq_true.mp (List.all_eq_true.mp bad_good h hh)
    refine sl_seq (sl_never (B := fun b => b = false) (tl_test (el_op (S := fun d => d = pB false) (el_wrong (o := netR (dfl (.int h) (.tuple [.tuple [.int 0, .int (h - 1)]]))) (d := pS "") (fun E => ex_net2 N2.hT (ea_cons (ed_var (i := 0) rfl) (ea_cons (t1 (t2 ed_int (ed_var (i := 1) rfl))) ea_nil))) (by unfold netR; rw [hgood]; rfl)) ed_str.el fun x y hx hy => ?_) fun d hd => ?_) (fun z => by cases z)) fun ds' e => ?_
    · subst hx; subst hy
      exact ⟨_, rfl, rd_neS⟩
    · exact ⟨false, hd, rfl⟩
    subst e
    refine sl_ret (S := fun d => d = pB true) (el_cb (SA := fun l => l = [pL ((bad1 h ++ bad2).map fun _ => PyData.bool true)]) ?_ fun l hl => ?_) fun d hd => hd
    · intro σ P1 H1 lh env Q q
      refine (al_cons (el_lcE (xs := bad1 h ++ bad2) (fun _ => PyData.bool true) (ed_var (i := 2) rfl) (show (15 : Nat) ≤ 40000 by decide) fun x hx => ?_) al_nil) σ P1 H1 lh env Q fun l vs P' H' hl u r => q l vs P' H' ?_ u r
      · have hb := of_decide_eq_true (hbad x hx)
        refine el_op (el_wrong (o := netR (dfl (.int h) x)) (d := pS "ties") (fun E => ex_net2 N2.hT (ea_cons (ed_var (i := 0) rfl) (ea_cons (ed_var (i := 3) rfl) ea_nil))) (by unfold netR; rw [hb]; rfl)) ed_str.el fun x y hx hy => ?_
        subst hx; subst hy
        exact ⟨_, rfl, rd_eqS⟩
      · obtain ⟨d, r', rfl, rfl, rfl⟩ := hl
        rfl
    · subst hl
      refine ⟨pB true, rfl, ?_⟩
      have hr := rda_all (W := W) (bs := (bad1 h ++ bad2).map fun _ => true)
      rw [List.map_map] at hr
      exact hr
end
end K01

set_option Elab.async false
set_option linter.all false
set_option maxRecDepth 100000
set_option maxHeartbeats 1000000
namespace K01
open PySem L2 Dl PySem.Spec PyProof.Rows
open Evl (Ex fresh_back sz_of sz_lt ex_l ex_t sq_of st_of)
/-! ### nets compared -/
theorem eqv_ints : ∀ l : List Int, PyData.eqvAll (l.map PyData.int) (l.map PyData.int) = true
  | [] => rfl
  | a :: r => by
    rw [List.map_cons, PyData.eqvAll, eqv_ints r, PyData.eqv]
    simp
theorem eqv_ties : ∀ l : List (Int × Int), PyData.eqvAll (l.map tieD) (l.map tieD) = true
  | [] => rfl
  | a :: r => by
    rw [List.map_cons, PyData.eqvAll, eqv_ties r]
    unfold tieD
    simp [PyData.eqv, PyData.eqvAll]
theorem eqP_refl (m : Nt) : eqP m.pt m.pt = true := by
  unfold eqP Nt.pt
  simp [PyData.eqv, eqv_ints, eqv_ties]
theorem eqv_parts (p q : Pt) : PyData.eqv (.tuple p.list) (.tuple q.list) = eqP p q := by
  unfold eqP Pt.list
  simp [PyData.eqv, PyData.eqvAll]
section
variable {W : Wd} {E : XK}
theorem rd_netEq {p q : Pt} (hp : wrongP p = none) (hq : wrongP q = none) : RD2 W (rOwnEq (W.cl 0) (spR W REq) E) (net p) (net q) (pB (eqP p q)) := fun P H v u e r1 r2 Q k => by
  obtain ⟨m, rfl, hm⟩ := valid_nt hp
  obtain ⟨m', rfl, hm'⟩ := valid_nt hq
  obtain ⟨a, dx, gs, rfl, ha, _⟩ := id r1
  obtain ⟨b, dy, hs, rfl, hb, _⟩ := id r2
  exact ⟨a, dx, gs, rfl, e _ _ ha, .inl ⟨b, dy, hs, rfl, e _ _ hb⟩, P, _, _, e, .cons r1 (.cons r2 .nil), .inl ⟨m, m', hm, hm', rfl, rfl⟩, fun d hd v P' H' s r => by cases hd; exact k v P' H' s r, fun er he => by cases he⟩
theorem rd_netEq5 {p : Pt} {i : Int} (hp : wrongP p = none) : RD2 W (rOwnEq (W.cl 0) (spR W REq) E) (net p) (pI i) (pB false) := fun P H v u e r1 r2 Q k => by
  obtain ⟨m, rfl, hm⟩ := valid_nt hp
  obtain ⟨a, dx, gs, rfl, ha, _⟩ := id r1
  have r2' := r2
  cases r2
  exact ⟨a, dx, gs, rfl, e _ _ ha, .inr ⟨i, rfl⟩, P, _, _, e, .cons r1 (.cons r2' .nil), .inr ⟨m, i, rfl, rfl⟩, fun d hd v P' H' s r => by cases hd; exact k v P' H' s r, fun er he => by cases he⟩
theorem rd_netNe {p q : Pt} (hp : wrongP p = none) (hq : wrongP q = none) : RD2 W (rOwnNe (W.cl 0) (spR W REq) E) (net p) (net q) (pB (!eqP p q)) := fun P H v u e r1 r2 Q k => by
  obtain ⟨m, rfl, hm⟩ := valid_nt hp
  obtain ⟨m', rfl, hm'⟩ := valid_nt hq
  obtain ⟨a, dx, gs, rfl, ha, _⟩ := id r1
  obtain ⟨b, dy, hs, rfl, hb, _⟩ := id r2
  exact ⟨a, dx, gs, b, dy, hs, rfl, e _ _ ha, rfl, e _ _ hb, P, _, _, e, .cons r1 (.cons r2 .nil), .inl ⟨m, m', hm, hm', rfl, rfl⟩, fun d hd v P' H' s r => by
    cases hd
    cases r
    exact ⟨_, rfl, k _ P' H' s (Dp.bl _)⟩, fun er he => by cases he⟩
/-- len(net) -/
theorem rda_netLen {m : Nt} (hm : m.Ok) : RDA W (rOwnLen (W.cl 0) (spR W RLen) E) [net m.pt] (pI m.n) := fun P H vs e r Q k => by
  cases r with
  | cons r1 r =>
    cases r
    obtain ⟨a, dx, gs, rfl, ha, _⟩ := id r1
    refine ⟨a, dx, gs, rfl, e _ _ ha, P, _, _, e, .cons r1 .nil, ⟨m, hm, rfl, rfl⟩, fun d hd v P' H' s r => ?_, fun er he => by cases he⟩
    cases hd
    cases r
    have := hm.n0
    have := hm.n1
    exact ⟨m.n, rfl, by omega, by omega, k _ P' H' s (Dp.int _)⟩
/-- net[i] -/
theorem ex_netIx {m : Nt} {i : Int} {ds : DS} {te ti : TE} (hm : m.Ok) (h : ED W te ds (net m.pt)) (hi : ED W ti ds (pI i)) : EX W E (tOwnIx (W.cl 0) (spR W RGet) E te ti) ds (if 0 ≤ i ∧ i < m.ts.length then .ok (.py (tieD (m.ts.getD i.toNat (0, 0)))) else .error (.pl 2)) := fun σ P H e env Q q x =>
  h σ P H e env _ fun v P1 H1 s1 r1 => hi σ P1 H1 s1.ph (env.mono s1.pp) _ fun u P2 H2 s2 r2 => by
    have r1 := r1.mono s2.pp
    obtain ⟨a, dx, gs, rfl, ha, _⟩ := id r1
    exact ⟨a, dx, gs, rfl, s2.ph _ _ ha, P2, _, _, s2.ph, .cons r1 (.cons r2 .nil), ⟨m, i, hm, rfl, rfl⟩, fun d hd v P' H' s r => q d hd v P' H' ((s1.trans s2).trans s) r, fun er he cls dd P' H' s r => x er he cls dd P' H' ((s1.trans s2).trans s) r⟩
end
end K01

set_option Elab.async false
set_option linter.all false
set_option maxRecDepth 100000
set_option maxHeartbeats 1000000
namespace K01
open PySem L2 Dl PySem.Spec PyProof.Rows
/-! ### parts with one of them changed -/
def nm : List Str := ["hosts", "ties", "weak", "endless", "split", "cry", "hold"]
def badA : List (List PyData) := [[.int 1, .int 5, .bool true, .none, .str "3"], [.tuple [], .list [t01], .tuple [.tuple [.int 1, .int 0]]], [.tuple [.int 9], .tuple [.int 0, .int 0], .list [.int 0], .tuple [.bool true], .tuple [.int (-1)], .none], [.int 1, .int 6, .bool true, .str "4", .none]]
def badB : List (List PyData) := [[.str "Plain", .int 5, .str "", .none, .str "loud"], [.str "cry", .int 0, .none, .str "plain"], [.int 3, .int (-1), .bool true, .str "1", .none]]
def badL : List (List PyData) := badA ++ badB
def Pt.setAt (p : Pt) (k : Nat) (d : PyData) : Pt := match k with
  | 0 => { p with h := d }
  | 1 => { p with t := d }
  | 2 => { p with k := d }
  | 3 => { p with e := d }
  | 4 => { p with s := d }
  | 5 => { p with c := d }
  | _ => { p with o := d }
theorem setAt_list (p : Pt) (d : PyData) : ∀ k, k < 7 → p.list.take k ++ [d] ++ p.list.drop (k + 1) = (p.setAt k d).list
  | 0, _ => rfl
  | 1, _ => rfl
  | 2, _ => rfl
  | 3, _ => rfl
  | 4, _ => rfl
  | 5, _ => rfl
  | 6, _ => rfl
  | n + 7, h => by omega
structure Pt.Good (p : Pt) : Prop where
  h : within p.h 2 4 = true
  t : tiesP p.t (hostsOf p.h) = true
  k : weakP p.k (lenOf p.t) = true
  e : within p.e 2 5 = true
  s : wordIn p.s splits = true
  c : wordIn p.c cries = true
  o : within p.o 0 2 = true
theorem good_iff (p : Pt) : wrongP p = none ↔ p.Good := by
  constructor
  · intro w
    unfold wrongP shapeP ruleP at w
    have tf : ∀ {b : Bool}, ¬ (b = false) → b = true := fun h => by simpa using h
    split at w
    · cases w
    · rename_i hs
      repeat' split at hs
      all_goals first
        | (cases hs; done)
        | skip
      repeat' split at w
      all_goals first
        | (cases w; done)
        | skip
      rename_i a1 a2 a3 a4 a5 a6 a7
      exact ⟨tf a1, tf a2, tf a3, tf a4, tf a5, tf a6, tf a7⟩
  · intro g
    unfold wrongP shapeP ruleP
    rw [g.h, g.t, g.k, g.e, g.s, g.c, g.o]
    rfl
theorem g_hosts {p : Pt} (g : p.Good) : ∃ n ∈ ([2, 3, 4] : List Int), p.h = .int n := by
  obtain ⟨n, e, h1, h2⟩ := within_int g.h
  refine ⟨n, ?_, e⟩
  have : n = 2 ∨ n = 3 ∨ n = 4 := by omega
  simpa using this
theorem g_len {p : Pt} (g : p.Good) : lenOf p.t ∈ ([1, 2, 3, 4, 5] : List Int) := by
  have ht := g.t
  cases hp : p.t with
  | tuple l =>
    rw [hp] at ht
    simp only [tiesP, Bool.and_eq_true, decide_eq_true_eq] at ht
    have h1 : (1 : Int) ≤ l.length := ht.1.1
    have h2 : (l.length : Int) ≤ 5 := ht.1.2
    have : (l.length : Int) = 1 ∨ (l.length : Int) = 2 ∨ (l.length : Int) = 3 ∨ (l.length : Int) = 4 ∨ (l.length : Int) = 5 := by omega
    show (l.length : Int) ∈ _
    simpa using this
  | _ => rw [hp] at ht; cases ht
theorem bad0 : (badL.getD 0 []).all (fun x => !within x 2 4) = true := by decide +kernel
theorem bad1' : (badL.getD 1 []).all (fun x => ([2, 3, 4] : List Int).all fun n => !tiesP x n) = true := by decide +kernel
theorem bad2' : (badL.getD 2 []).all (fun x => ([1, 2, 3, 4, 5] : List Int).all fun n => !weakP x n) = true := by decide +kernel
theorem bad3' : (badL.getD 3 []).all (fun x => !within x 2 5) = true := by decide +kernel
theorem bad4' : (badL.getD 4 []).all (fun x => !wordIn x splits) = true := by decide +kernel
theorem bad5' : (badL.getD 5 []).all (fun x => !wordIn x cries) = true := by decide +kernel
theorem bad6' : (badL.getD 6 []).all (fun x => !within x 0 2) = true := by decide +kernel
theorem notT {b : Bool} (h : (!b) = true) : b = false := by simpa using h
/-- the changed part is the first wrong one, also if hold is wrong, too -/
theorem wrong_at {p : Pt} (g : p.Good) {x : PyData} : ∀ k, k < 7 → x ∈ badL.getD k [] → wrongP (p.setAt k x) = some (nm.getD k "") ∧ wrongP { p.setAt k x with o := .int 9 } = some (nm.getD k "")
  | 0, _, hx => by
    have b := notT (List.all_eq_true.mp bad0 x hx)
    constructor <;> (simp [wrongP, shapeP, Pt.setAt, b, nm])
  | 1, _, hx => by
    obtain ⟨n, hn, e⟩ := g_hosts g
    have b := notT (List.all_eq_true.mp (List.all_eq_true.mp bad1' x hx) n hn)
    have b2 : tiesP x (hostsOf p.h) = false := by rw [e]; exact b
    constructor <;> (simp [wrongP, shapeP, Pt.setAt, b2, nm, g.h])
  | 2, _, hx => by
    have b2 := notT (List.all_eq_true.mp (List.all_eq_true.mp bad2' x hx) _ (g_len g))
    constructor <;> (simp [wrongP, shapeP, Pt.setAt, b2, nm, g.h, g.t])
  | 3, _, hx => by
    have b2 := notT (List.all_eq_true.mp bad3' x hx)
    constructor <;> (simp [wrongP, shapeP, ruleP, Pt.setAt, b2, nm, g.h, g.t, g.k])
  | 4, _, hx => by
    have b2 := notT (List.all_eq_true.mp bad4' x hx)
    constructor <;> (simp [wrongP, shapeP, ruleP, Pt.setAt, b2, nm, g.h, g.t, g.k, g.e])
  | 5, _, hx => by
    have b2 := notT (List.all_eq_true.mp bad5' x hx)
    constructor <;> (simp [wrongP, shapeP, ruleP, Pt.setAt, b2, nm, g.h, g.t, g.k, g.e, g.s])
  | 6, _, hx => by
    have b2 := notT (List.all_eq_true.mp bad6' x hx)
    have b3 : within (.int 9) 0 2 = false := by decide
    constructor <;> (simp [wrongP, shapeP, ruleP, Pt.setAt, b2, b3, nm, g.h, g.t, g.k, g.e, g.s, g.c])
  | n + 7, h, _ => by omega
/-- a rule of another net -/
theorem set_good {p q : Pt} (g : p.Good) (g' : q.Good) : ∀ k : Nat, 3 ≤ k → k < 7 → ∃ d, L2.atI q.list (k : Int) = some d ∧ (p.setAt k d).Good ∧ (∀ x, p.put (nm.getD k "") x = p.setAt k x) ∧ nm.getD k "" ∈ rules
  | 3, _, _ => ⟨q.e, rfl, ⟨g.h, g.t, g.k, g'.e, g.s, g.c, g.o⟩, fun x => rfl, by decide⟩
  | 4, _, _ => ⟨q.s, rfl, ⟨g.h, g.t, g.k, g.e, g'.s, g.c, g.o⟩, fun x => rfl, by decide⟩
  | 5, _, _ => ⟨q.c, rfl, ⟨g.h, g.t, g.k, g.e, g.s, g'.c, g.o⟩, fun x => rfl, by decide⟩
  | 6, _, _ => ⟨q.o, rfl, ⟨g.h, g.t, g.k, g.e, g.s, g.c, g'.o⟩, fun x => rfl, by decide⟩
  | 0, h, _ => by omega
  | 1, h, _ => by omega
  | 2, h, _ => by omega
  | n + 7, _, h => by omega
end K01

set_option Elab.async false
set_option linter.all false
set_option maxRecDepth 100000
set_option maxHeartbeats 1000000
namespace K01
open PySem L2 Dl PySem.Spec PyProof.Rows
open Evl (Ex fresh_back sz_of sz_lt ex_l ex_t sq_of st_of)
structure EqF (P : Program) (w : World) (W : Wd) (mg : Str → Option Value) (base : Heap) : Prop where
  ex : ∃ f fd, FnOk P w W.K mg base (L2.CX P w) 1 f fd ["self", "other"] (spR W REq) ∧ Binds W.K fd ["self", "other"] [] ∧ OwnM W.K (W.cl 0) f "__eq__" ∧ NoNe W.K (W.cl 0) f
  nf : PySem.W.notFirst W.K (W.cl 0) (.type "int") = true
structure LenF (P : Program) (w : World) (W : Wd) (mg : Str → Option Value) (base : Heap) : Prop where
  ex : ∃ f fd, FnOk P w W.K mg base (L2.CX P w) 1 f fd ["self"] (spR W RLen) ∧ Binds W.K fd ["self"] [] ∧ OwnM W.K (W.cl 0) f "__len__"
structure GetF (P : Program) (w : World) (W : Wd) (mg : Str → Option Value) (base : Heap) : Prop where
  ex : ∃ f fd, FnOk P w W.K mg base (L2.CX P w) 3 f fd ["self", "at"] (spR W RGet) ∧ Binds W.K fd ["self", "at"] [] ∧ OwnM W.K (W.cl 0) f "__getitem__" ∧ PySem.W.fnIn W.K f = true
theorem raw0 {P : Program} {w : World} {K : PySem.W.Frag} {mg : Str → Option Value} {base : Heap} {CX : CXT} {k : Nat} {f : Addr} {fd : FuncData} {ps : List Str} {sp : Sp} (F : FnOk P w K mg base CX k f fd ps sp) (hb : Binds K fd ps []) : FnR P w K mg base CX k f sp :=
  (F.raw hb .nil).imp fun vs H Q E h => by rw [List.append_nil]; exact h
section
variable {X : Cx} {W : Wd} {E : XK}
theorem opNetEq (C : EqF X.prog X.w W X.mg X.base) (hr : Room 1 X.A) (hx : Passes (L2.CX X.prog X.w) X E) (hK : X.K = W.K := by rfl) : OpR X (compareOp .Eq) (rOwnEq (W.cl 0) (spR W REq) E) := by
  obtain ⟨f, fd, h1, h2, h3, h4⟩ := C.ex
  have nf := C.nf
  rw [← hK] at h1 h2 h3 h4 nf
  exact op_ownEq h3 nf (raw0 h1 h2) hr hx
theorem opNetNe (C : EqF X.prog X.w W X.mg X.base) (hr : Room 2 X.A) (hx : Passes (L2.CX X.prog X.w) X E) (hK : X.K = W.K := by rfl) : OpR X (compareOp .NotEq) (rOwnNe (W.cl 0) (spR W REq) E) := by
  obtain ⟨f, fd, h1, h2, h3, h4⟩ := C.ex
  rw [← hK] at h1 h2 h3 h4
  exact op_ownNe h4 (raw0 h1 h2) hr hx
theorem callNetLen (C : LenF X.prog X.w W X.mg X.base) (hr : Room 2 X.A) (hx : Passes (L2.CX X.prog X.w) X E) (hK : X.K = W.K := by rfl) : CallR X (.builtin "len") (rOwnLen (W.cl 0) (spR W RLen) E) := by
  obtain ⟨f, fd, h1, h2, h3⟩ := C.ex
  rw [← hK] at h1 h2 h3
  exact call_ownLen h3 (raw0 h1 h2) hr hx
theorem pe_netIx {e e2 : Expr} {ta tb : TE} {pos : Pos} (C : GetF X.prog X.w W X.mg X.base) (hr : Room 4 X.A) (hx : Passes (L2.CX X.prog X.w) X E) (ha : PE X e ta) (hb : PE X e2 tb) (hK : X.K = W.K := by rfl)
    (hsl : ∀ (x : Addr) (i : Value), subscripted e2 true (.ref x) i = runValue (.builtin "lifetime.subscript" ⟨[.ref x, i], []⟩) := by intros; with_unfolding_all rfl) : PE X (.Subscript e e2 pos) (tOwnIx (W.cl 0) (spR W RGet) E ta tb) := by
  obtain ⟨f, fd, h1, h2, h3, h4⟩ := C.ex
  rw [← hK] at h1 h2 h3 h4
  exact pe_ownIx h3 h4 (raw0 h1 h2) hr hx ha hb hsl
end
theorem slTA {X : Cx} {W : Wd} (h : X.K = W.K) : SlR X (rSlA W.K) := h ▸ sl_tupA
theorem opCatA {X : Cx} {W : Wd} (h : X.K = W.K) : OpR X (binaryOp .Add) (rCatA W.K) := h ▸ op_catA
/-- a, b = x, y by a tuple -/
theorem sd_pair {W : Wd} {ds : DS} {i j : Nat} {t1 t2 : TE} {x y : D} (h1 : ED W t1 ds x) (h2 : ED W t2 ds y) : SD W (tAsg (tTup (tCons t1 (tCons t2 tNil))) (gTup W.K 2 (gCons (gName i) (gCons (gName j) gNil)))) ds (.nx ((ds.set i (some x)).set j (some y))) := fun σ P H E e env k =>
  h1 σ P H e env _ fun v1 P2 H2 s1 r1 => h2 σ P2 H2 s1.ph (env.mono s1.pp) _ fun v2 P3 H3 s2 r2 => by
    refine ⟨show (2 : Nat) ≤ sizeLine by rw [PySem.sizeLine_eq]; decide, fun a ha => ?_⟩
    have st := Step.new (o := .tup [v1, v2]) s2.ph ha
    have u := (s1.trans s2).trans st
    exact ⟨a, _, rfl, st_of upd_same, rfl, _, _, rfl, _, _, rfl, rfl, k _ _ _ u (((env.mono u.pp).set i (d := x) (r1.mono (s2.trans st).pp)).set j (d := y) (r2.mono st.pp))⟩
/-! ### _law_rules_right -/
abbrev s35 : Stmt := top 35
abbrev q35 : Str := ("_law_rules_right" : Str) ++ ".<locals>."
abbrev N35 : List Str := ["draw", "parts", "other", "names", "net", "bad", "at", "name", "thing", "odd", "late"]
theorem sc35 : FnScope N35 ["draw", "parts", "other"] (defScope s35) := ⟨rfl, rfl, rfl, by decide +kernel, rfl, by decide +kernel, by decide +kernel⟩
def R35 (L : Lw) (l : List D) (S : D → Prop) : Prop := ∃ p q : Pt, wrongP p = none ∧ wrongP q = none ∧ l = [.at L.q, pT p.list, pT q.list] ∧ S = fun d => d = pB true
section
variable {P : Program} {w : World} {W : Wd} {L : Lw} {mg : Str → Option Value} {base : Heap}
theorem ok35 {f c Pt' : Addr} {fd : FuncData} (F : FunC W.K "_law_rules_right" "_law_rules_right" s35 f fd c) (T : Blt2 mg) (C30 : CL P w W L mg base "_law_pick" 3 ["draw", "things"] (R30 L)) (C32 : CX1 P w W mg base "_law_made" 8 ["parts"] R32) (CB : CM P w W mg base 0 "but" 8 ["self", "name", "thing"] RBut)
    (CE : EqF P w W mg base) (C : WrF P W mg) (LC : LamC L base mg c Pt' (q35 ++ "<lambda>")) : FnOk P w W.K mg base (L2.CX P w) 11 f fd ["draw", "parts", "other"] (spL W L (R35 L)) := by
  refine okLC F sc35 (fun l o h => ?_) (fun A outer s H E hr l o h => ?_)
  · obtain ⟨p, q, _, _, rfl, _⟩ := h; rfl
  · have hr8 := hr.mono (j := 8) (by decide)
    refine ⟨_, pss_cons (ps_asg (pe_tup (pa_cons (pe_lst (pa_cons pe_str (pa_cons pe_str (pa_cons pe_str (pa_cons pe_str (pa_cons pe_str (pa_cons pe_str (pa_cons pe_str pa_nil)))))))) (pa_cons (pe_cx0 C32 hr8 (pa_cons (pv 1) pa_nil)) pa_nil))) (pg_tup (by rfl) (pgs_cons (pg_name (i := 3) sc35.nd rfl (.inl rfl)) (pgs_cons (pg_name (i := 4) sc35.nd rfl (.inr rfl)) pgs_nil))))
      (pss_cons (ps_set (i := 5) sc35.nd rfl (.inl rfl) (pe_lst (pa_cons (pe_lst (pa_cons pe_int (pa_cons pe_int (pa_cons pe_bl (pa_cons pe_non (pa_cons pe_str pa_nil)))))) (pa_cons (pe_lst (pa_cons (pe_tup pa_nil) (pa_cons (pe_lst (pa_cons (pe_tup (pa_cons pe_int (pa_cons pe_int pa_nil))) pa_nil)) (pa_cons (pe_tup (pa_cons (pe_tup (pa_cons pe_int (pa_cons pe_int pa_nil))) pa_nil)) pa_nil))))
        (pa_cons (pe_lst (pa_cons (pe_tup (pa_cons pe_int pa_nil)) (pa_cons (pe_tup (pa_cons pe_int (pa_cons pe_int pa_nil))) (pa_cons (pe_lst (pa_cons pe_int pa_nil)) (pa_cons (pe_tup (pa_cons pe_bl pa_nil)) (pa_cons (pe_tup (pa_cons (pe_un un_neg pe_int) pa_nil)) (pa_cons pe_non pa_nil)))))))
        (pa_cons (pe_lst (pa_cons pe_int (pa_cons pe_int (pa_cons pe_bl (pa_cons pe_str (pa_cons pe_non pa_nil)))))) pa_nil))))))
      (pss_cons (ps_set (i := 5) sc35.nd rfl (.inl rfl) (pe_op op_catS (pv 5) (pe_lst (pa_cons (pe_lst (pa_cons pe_str (pa_cons pe_int (pa_cons pe_str (pa_cons pe_non (pa_cons pe_str pa_nil)))))) (pa_cons (pe_lst (pa_cons pe_str (pa_cons pe_int (pa_cons pe_non (pa_cons pe_str pa_nil)))))
        (pa_cons (pe_lst (pa_cons pe_int (pa_cons (pe_un un_neg pe_int) (pa_cons pe_bl (pa_cons pe_str (pa_cons pe_non pa_nil)))))) pa_nil))))))
      (pss_cons (ps_for (passes_of rfl) rfl (pi_enum (by rfl) T.enum (pa_cons (pv 3) pa_nil)) (pg_tup (by rfl) (pgs_cons (pg_name (i := 6) sc35.nd rfl (.inl rfl)) (pgs_cons (pg_name (i := 7) sc35.nd rfl (.inr rfl)) pgs_nil)))
        (pss_cons (ps_set (i := 8) sc35.nd rfl (.inr rfl) (pe_cl C30 (hr.mono (by decide)) (pa_cons (pv 0) (pa_cons (pe_ix ix_list (pv 5) (pv 6) (fun _ _ => rfl)) pa_nil))))
        (pss_cons (ps_set (i := 9) sc35.nd rfl (.inr rfl) (pe_op op_catA (pe_op op_catA (pe_slice sl_tupA (pv 1) po_none (po_some (pv 6))) (pe_tup (pa_cons (pv 8) pa_nil))) (pe_slice sl_tupA (pv 1) (po_some (pe_op op_add (pv 6) pe_int)) po_none)))
        (pss_cons (ps_if (pt_cmpR op_ne (pe_wrong (k := 8) C LC hr (fun A outer s H E f c' hr2 => pe_cx (W := W) (R := R32) C32 hr2 (passes_call (takes_of rfl rfl rfl rfl) fun _ _ _ _ z => z) (pa_cons (pv 9) pa_nil)) (LamX.lamS_by (by rfl))) (pv 7) (nomark _)) (pss_one (ps_ret pe_bl)) pss_nil)
        (pss_cons (ps_if (pt_cmpR op_ne (pe_wrong (k := 8) C LC hr (fun A outer s H E f c' hr2 => pe_cx (W := W) (R := R32) C32 hr2 (passes_call (takes_of rfl rfl rfl rfl) fun _ _ _ _ z => z) (pa_cons (pe_op (opCatA (W := W) rfl) (pe_slice (slTA (W := W) rfl) (pv 9) po_none (po_some pe_int)) (pe_tup (pa_cons pe_int pa_nil))) pa_nil)) (LamX.lamS_by (by rfl))) (pv 7) (nomark _)) (pss_one (ps_ret pe_bl)) pss_nil)
        (pss_one (ps_if (pt_cmpR op_gt (pv 6) pe_int (nomark _))
          (pss_cons (ps_set (i := 10) sc35.nd rfl (.inl rfl) (pe_op op_catA (pe_op op_catA (pe_slice sl_tupA (pv 1) po_none (po_some (pv 6))) (pe_tup (pa_cons (pe_ix ix_tup (pv 2) (pv 6) (fun _ _ => rfl)) pa_nil))) (pe_slice sl_tupA (pv 1) (po_some (pe_op op_add (pv 6) pe_int)) po_none)))
          (pss_one (ps_if (PW.pt (pw_or (pt_cmpR (opNetNe CE (hr.mono (by decide)) passL) (pe_cm (pv 4) CB hr8 passL (pa_cons (pv 7) (pa_cons (pe_ix ix_tup (pv 2) (pv 6) (fun _ _ => rfl)) pa_nil))) (pe_cx0 C32 hr8 (pa_cons (pv 10) pa_nil)) (nomark _))
            (pw_or1 (pt_cmpR op_ne (pe_wrong (k := 8) C LC hr (fun A outer s H E f c' hr2 => pe_cm (W := W) (c := 0) (R := RBut) (pv 4) CB hr2 (passes_call (takes_of rfl rfl rfl rfl) fun _ _ _ _ z => z) (pa_cons (pv 7) (pa_cons (pv 8) pa_nil))) (LamX.lamS_by (by rfl))) (pv 7) (nomark _))))) (pss_one (ps_ret pe_bl)) pss_nil))) pss_nil)))))))
      (pss_one (ps_ret pe_bl))))), ?_⟩
    obtain ⟨p, q, hp, hq, rfl, rfl⟩ := h
    obtain ⟨m, rfl, hm⟩ := valid_nt hp
    have gp := (good_iff _).mp hp
    have gq := (good_iff _).mp hq
    have made : ∀ {ds : DS} {te : TE} {p : Pt} {E : XK}, ED W te ds (pT p.list) → EX W E (tCall (spR W R32) [] E (tCons te tNil)) ds (netR p) := fun h => ex_call (ea_cons h ea_nil) ⟨_, rfl, rfl⟩
    have okR : ∀ {p : Pt}, wrongP p = none → netR p = .ok (net p) := fun h => by unfold netR; rw [h]
    have t2 : ∀ {ds : DS} {x y : TE} {a b : PyData}, ED W x ds (.py a) → ED W y ds (.py b) → ED W (tTup (tCons x (tCons y tNil))) ds (.py (.tuple [a, b])) := fun h1 h2 => ed_tup (l := [_, _]) (ea_cons h1 (ea_cons h2 ea_nil)) (show (2 : Nat) ≤ 100000 by decide)
    have t1 : ∀ {ds : DS} {x : TE} {a : PyData}, ED W x ds (.py a) → ED W (tTup (tCons x tNil)) ds (.py (.tuple [a])) := fun h1 => ed_tup (l := [_]) (ea_cons h1 ea_nil) (show (1 : Nat) ≤ 100000 by decide)
    have l1 : ∀ {ds : DS} {x : TE} {a : PyData}, ED W x ds (.py a) → ED W (tLst (tCons x tNil)) ds (.py (.list [a])) := fun h1 => ed_lst (l := [_]) (ea_cons h1 ea_nil) (show (1 : Nat) ≤ 100000 by decide)
    -- names, net
    refine sl_seq (SD.sl (sd_pair (x := pL (nm.map PyData.str)) (y := net m.pt) (ed_lst (l := nm.map PyData.str) (ea_cons ed_str (ea_cons ed_str (ea_cons ed_str (ea_cons ed_str (ea_cons ed_str (ea_cons ed_str (ea_cons ed_str ea_nil))))))) (show (7 : Nat) ≤ 100000 by decide)) (EX.ed ((made (E := E0) (ed_var (i := 1) rfl)).cast (okR hp))))) fun ds' e => ?_
    subst e
    refine sl_seq (SD.sl (sd_asg (d := pL (badA.map PyData.list)) (ed_lst (l := badA.map PyData.list) (ea_cons (ed_lst (l := badA.getD 0 []) (ea_cons ed_int (ea_cons ed_int (ea_cons ed_bl (ea_cons ed_non (ea_cons ed_str ea_nil))))) (by decide)) (ea_cons (ed_lst (l := badA.getD 1 []) (ea_cons (ed_tup (l := []) ea_nil (by decide)) (ea_cons (l1 (t2 ed_int ed_int)) (ea_cons (t1 (t2 ed_int ed_int)) ea_nil))) (by decide))
      (ea_cons (ed_lst (l := badA.getD 2 []) (ea_cons (t1 ed_int) (ea_cons (t2 ed_int ed_int) (ea_cons (l1 ed_int) (ea_cons (t1 ed_bl) (ea_cons (t1 (ed_neg ed_int)) (ea_cons ed_non ea_nil)))))) (by decide)) (ea_cons (ed_lst (l := badA.getD 3 []) (ea_cons ed_int (ea_cons ed_int (ea_cons ed_bl (ea_cons ed_str (ea_cons ed_non ea_nil))))) (by decide)) ea_nil)))) (by decide)))) fun ds' e => ?_
    subst e
    refine sl_seq (SD.sl (sd_asg (d := pL (badL.map PyData.list)) ((ed_op (ed_var (i := 5) (d := pL (badA.map PyData.list)) rfl) (ed_lst (l := badB.map PyData.list) (ea_cons (ed_lst (l := badB.getD 0 []) (ea_cons ed_str (ea_cons ed_int (ea_cons ed_str (ea_cons ed_non (ea_cons ed_str ea_nil))))) (by decide)) (ea_cons (ed_lst (l := badB.getD 1 []) (ea_cons ed_str (ea_cons ed_int (ea_cons ed_non (ea_cons ed_str ea_nil)))) (by decide))
      (ea_cons (ed_lst (l := badB.getD 2 []) (ea_cons ed_int (ea_cons (ed_neg ed_int) (ea_cons ed_bl (ea_cons ed_str (ea_cons ed_non ea_nil))))) (by decide)) ea_nil))) (by decide)) (rd_catL (show (7 : Nat) ≤ 100000 by decide))).cast rfl))) fun ds' e => ?_
    subst e
    refine sl_seq (sl_forE (xs := nm.map PyData.str) (fun k ds' => ∃ o6 o7 o8 o9 o10, ds' = [some (.at L.q), some (pT m.pt.list), some (pT q.list), some (pL (nm.map PyData.str)), some (net m.pt), some (pL (badL.map PyData.list)), o6, o7, o8, o9, o10]) (ea_cons (ed_var (i := 3) rfl) ea_nil) ⟨none, none, none, none, none, rfl⟩ fun k ds' x hx e => ?_) fun ds' e => ?_
    · obtain ⟨o6, o7, o8, o9, o10, rfl⟩ := e
      have hk : k < 7 := by
        have := List.getElem?_eq_some_iff.mp hx
        obtain ⟨h, _⟩ := this
        exact h
      obtain rfl : x = .str (nm.getD k "") := by
        rw [List.getElem?_map, List.getElem?_eq_getElem (show k < nm.length from hk)] at hx
        rw [List.getD_eq_getElem?_getD, List.getElem?_eq_getElem (show k < nm.length from hk)]
        exact (Option.some.inj hx).symm
      have hb : L2.atI (badL.map PyData.list) (k : Int) = some (.list (badL.getD k [])) := by
        have e1 : ixN (badL.map PyData.list).length (k : Int) = some k := by
          unfold ixN
          rw [if_pos (by omega), if_pos (by show (k : Int) < (7 : Nat); omega)]
          simp
        unfold L2.atI
        rw [e1]
        show (badL.map PyData.list)[k]? = _
        rw [List.getElem?_map, List.getElem?_eq_getElem (show k < badL.length from hk), List.getD_eq_getElem?_getD, List.getElem?_eq_getElem (show k < badL.length from hk)]
        rfl
      have hne : badL.getD k [] ≠ [] := (show ∀ k, k < 7 → badL.getD k [] ≠ [] by decide) k hk
      -- thing
      refine sl_seq (sl_asg (el_call (S := fun d => ∃ x ∈ badL.getD k [], d = .py x) (EA.al (l := [.at L.q, pL (badL.getD k [])]) (ea_cons (ed_var (i := 0) rfl) (ea_cons (ed_op (ed_var (i := 5) rfl) (ed_var (i := 6) rfl) (rd_ixL hb)) ea_nil))) fun l hl => by subst hl; exact ⟨_, hne, rfl, rfl⟩)) fun ds' e => ?_
      obtain ⟨d, ⟨thing, hth, rfl⟩, rfl⟩ := e
      obtain ⟨w1, w2⟩ := wrong_at gp k hk hth
      have cut : ∀ {ds : DS} {te : TE} {x : PyData}, ds[1]? = some (some (pT m.pt.list)) → ds[6]? = some (some (pI (k : Int))) → ED W te ds (.py x) →
          ED W (tOp (rCatA W.K) (tOp (rCatA W.K) (tSl (rSlA W.K) (tVar 1) tNoPart (tPart (tVar 6))) (tTup (tCons te tNil))) (tSl (rSlA W.K) (tVar 1) (tPart (tOp (rI0 fun i j => .int (i + j)) (tVar 6) (tC (.int 1)))) tNoPart)) ds (pT (m.pt.setAt k x).list) := fun h1 h6 h =>
        (ed_op (ed_op (ed_slT (ed_var h1) eo_none (eo_some (ed_var h6))) (t1 h) (rd_catT (by rw [cut_take, List.length_take]; show min k 7 + 1 ≤ 100000; omega))) (ed_slT (ed_var h1) (eo_some (ed_op (ed_var h6) ed_int rd_I)) eo_none) (rd_catT (by
          rw [show ((k : Int) + 1) = ((k + 1 : Nat) : Int) by omega, cut_take, cut_drop, List.length_append, List.length_take, List.length_drop]
          show min k 7 + 1 + (7 - (k + 1)) ≤ 100000
          omega))).cast (by rw [show ((k : Int) + 1) = ((k + 1 : Nat) : Int) by omega, cut_take, cut_drop, setAt_list _ _ k hk])
      refine sl_seq (SD.sl (sd_asg (cut rfl rfl (ed_var (i := 8) rfl)))) fun ds' e => ?_
      subst e
      have errR : ∀ {p : Pt} {x : Str}, wrongP p = some x → wrongD (netR p) = some (pS x) := fun h => by
        unfold netR
        rw [h]
        show (if ("part" : Str) = "part" then some (pS _) else none) = _
        rw [if_pos rfl]
      have ne : ∀ {ds : DS} {te : XK → TE} {o : Res} {b : Str}, (∀ E, EX W E (te E) ds o) → wrongD o = some (pS b) → ds[7]? = some (some (pS b)) → TL W L (tTest (tOp rNe (LamX.tLam L.T (TTw W) te) (tVar 7))) ds (fun b => b = false) := fun h1 h2 h3 =>
        tl_test (el_op (S := fun d => d = pB false) (el_wrong h1 h2) (ED.el (ed_var h3)) fun x y hx hy => by
          subst hx; subst hy
          exact ⟨_, rfl, rd_neS.cast3 (by simp)⟩) fun d hd => ⟨false, hd, rfl⟩
      refine sl_seq (sl_never (ne (fun E => made (ed_var (i := 9) rfl)) (errR w1) rfl) (fun z => by cases z)) fun ds' e => ?_
      subst e
      refine sl_seq (sl_never (ne (fun E => made (p := { m.pt.setAt k thing with o := .int 9 }) ((ed_op (ed_slT (ed_var (i := 9) (d := pT (m.pt.setAt k thing).list) rfl) eo_none (eo_some (ed_int (i := 6)))) (t1 (ed_int (i := 9))) (rd_catT (by rw [show (6 : Int) = ((6 : Nat) : Int) from rfl, cut_take, List.length_take]; show min 6 7 + 1 ≤ 100000; decide))).cast (by rw [show (6 : Int) = ((6 : Nat) : Int) from rfl, cut_take]; rfl))) (errR w2) rfl) (fun z => by cases z)) fun ds' e => ?_
      subst e
      refine sl_if (B := fun b => b = decide ((2 : Int) < (k : Int))) (ET.tl (et_test (ed_op (ed_var (i := 6) rfl) ed_int (rd_IB (f := fun i j => decide (j < i)))))) (fun hb => ?_) (fun hb => sl_next.imp fun d hd => ⟨_, _, _, _, _, hd⟩)
      have h3 : 3 ≤ k := by
        have := of_decide_eq_true hb.symm
        omega
      obtain ⟨dk, hdk, gk, hput, hmem⟩ := set_good gp gq k h3 hk
      have vk := (good_iff _).mpr gk
      refine sl_seq (SD.sl (sd_asg (cut rfl rfl (ed_op (ed_var (i := 2) rfl) (ed_var (i := 6) rfl) (rd_ixT hdk))))) fun ds' e => ?_
      subst e
      have but : ∀ {ds : DS} {te : TE} {x : PyData} {E : XK}, ds[4]? = some (some (net m.pt)) → ds[7]? = some (some (pS (nm.getD k ""))) → ED W te ds (.py x) → EX W E (tMeth (W.cl 0) "but" (spR W RBut) [] E (tVar 4) (tCons (tVar 7) (tCons te tNil))) ds (netR (m.pt.setAt k x)) := fun h4 h7 h =>
        (ex_meth (ed_var h4) rfl (ea_cons (ed_var h7) (ea_cons h ea_nil)) ⟨m, .str (nm.getD k ""), _, rfl, rfl⟩).cast (by
          show (if nm.getD k "" ∈ rules then _ else _) = _
          rw [if_pos hmem, hput])
      refine (sl_never (tl_or (B2 := fun b => b = false) (tl_test (ED.el (ed_op (EX.ed ((but rfl rfl (ed_op (ed_var (i := 2) rfl) (ed_var (i := 6) rfl) (rd_ixT hdk))).cast (okR vk))) (EX.ed ((made (E := E0) (ed_var (i := 10) rfl)).cast (okR vk))) (rd_netNe vk vk))) fun d hd => ?_)
        (ne (fun E => but rfl rfl (ed_var (i := 8) rfl)) (errR w1) rfl) (fun z => by cases z)) (fun z => by cases z)).imp fun d hd => ⟨_, _, _, _, _, hd⟩
      obtain ⟨mk, e1, _⟩ := valid_nt vk
      refine ⟨_, hd, ?_⟩
      rw [e1, eqP_refl]
      rfl
    · obtain ⟨o6, o7, o8, o9, o10, rfl⟩ := e
      exact SD.slr (sd_ret ed_bl) rfl
end
end K01

set_option Elab.async false
set_option linter.all false
set_option maxRecDepth 100000
set_option maxHeartbeats 1000000
namespace Dl
open PySem L2 PySem.Spec PyProof.Rows
open Evl (Ex fresh_back sz_of sz_lt ex_l ex_t sq_of st_of)
/-- a, b = x, y where making x and y draws -/
theorem sl_pairL {W : Wd} {L : Lw} {ds : DS} {i j : Nat} {t1 t2 : TE} {S1 S2 : D → Prop} {R : D → Prop} (h1 : EL W L t1 ds S1) (h2 : EL W L t2 ds S2) : SL W L (tAsg (tTup (tCons t1 (tCons t2 tNil))) (gTup W.K 2 (gCons (gName i) (gCons (gName j) gNil)))) ds (fun ds' => ∃ x y, S1 x ∧ S2 y ∧ ds' = (ds.set i (some x)).set j (some y)) R := fun σ P H E lh env k r =>
  h1 σ P H lh env _ fun x v1 P2 H2 sx u1 r1 => h2 σ P2 H2 u1.lh (env.mono u1.pp) _ fun y v2 P3 H3 sy u2 r2 => by
    refine ⟨show (2 : Nat) ≤ sizeLine by rw [PySem.sizeLine_eq]; decide, fun a ha => ?_⟩
    have st := Step.new (o := .tup [v1, v2]) u2.lh.ph ha
    have u := (u1.trans u2).trans (u2.lh.ls st)
    exact ⟨a, _, rfl, st_of upd_same, rfl, _, _, rfl, _, _, rfl, rfl, k _ _ _ _ ⟨x, y, sx, sy, rfl⟩ u (((env.mono u.pp).set i (d := x) (r1.mono (u2.pp.trans st.pp))).set j (d := y) (r2.mono st.pp))⟩
theorem rd_neB {W : Wd} {a b : Bool} : RD2 W rNe (pB a) (pB b) (pB (!(a == b))) := fun P H v w e r1 r2 Q q => by
  cases r1; cases r2
  refine ⟨rfl, ?_⟩
  have : (!decide (V.bl a = V.bl b)) = (!(a == b)) := by cases a <;> cases b <;> rfl
  first
    | (rw [this]; exact q _ P H (Step.refl e) (Dp.bl _))
    | (cases a <;> cases b <;> exact q _ P H (Step.refl e) (Dp.bl _))
/-- tuple(range(0, n)), n drawn -/
theorem el_tupRg {W : Wd} {L : Lw} {ds : DS} {te : TE} {S : D → Prop} {n : Int} (h : EL W L te ds S) (hS : ∀ d, S d → ∃ i, 0 ≤ i ∧ i < n ∧ d = pI i) (hn : n ≤ 1000) : EL W L (tTupRg (tRg1 te)) ds (fun z => ∃ l, z = pT l ∧ ∃ i : Int, 0 ≤ i ∧ i < n ∧ l = (List.range i.toNat).map fun k : Nat => PyData.int k) := fun σ P H lh env Q q =>
  h σ P H lh env _ fun d v P1 H1 sd u1 r1 => by
    obtain ⟨i, h0, h1, rfl⟩ := hS d sd
    cases r1
    refine ⟨i, rfl, RgOk.of_le (by omega) (by omega) (by omega) (by omega), fun a ha => ?_⟩
    have st := Step.new (o := .tup (rgV 0 i)) u1.lh.ph ha
    refine q _ _ _ _ ⟨_, rfl, i, h0, h1, rfl⟩ (u1.trans (u1.lh.ls st)) (Dp.tup (st_of upd_same) ?_)
    have e : rgV 0 i = (List.range i.toNat).map fun k : Nat => V.int k := by
      unfold rgV
      rw [Int.sub_zero]
      exact List.map_congr_left fun k _ => by rw [Int.zero_add]
    rw [e]
    have all : ∀ (Pz : Hp) (xs : List Nat), DpAll W.K Pz (xs.map fun k : Nat => V.int k) (xs.map fun k : Nat => PyData.int k) := fun Pz xs => by
      induction xs with
      | nil => exact .nil
      | cons x r ih => exact .cons (.int _) ih
    exact all _ _
/-- x and y, both True -/
theorem el_andT {W : Wd} {L : Lw} {ds : DS} {t1 t2 : TE} (h1 : EL W L t1 ds (fun d => d = pB true)) (h2 : EL W L t2 ds (fun d => d = pB true)) : EL W L (tAndV t1 t2) ds (fun d => d = pB true) := fun σ P H lh env Q q =>
  h1 σ P H lh env _ fun d v P1 H1 hd u1 r1 => by
    subst hd
    cases r1
    refine ⟨true, rfl, ?_⟩
    exact h2 σ P1 H1 u1.lh (env.mono u1.pp) Q fun d v P2 H2 hd u2 r2 => q d v P2 H2 hd (u1.trans u2) r2
end Dl
namespace K01
open PySem L2 Dl PySem.Spec PyProof.Rows
theorem sh_list {m : Nt} (hm : m.Ok) : SeqAt.shaped (.tuple m.pt.list) = true := by
  have h1 := sh_split hm.s1
  have h2 := sh_cry hm.c1
  have h3 := sh_ties m.ts
  have h4 := sh_ints m.ks
  unfold SeqAt.shaped at *
  unfold Nt.pt Pt.list
  simp only [Bool.and_eq_true, decide_eq_true_eq] at h1 h2 h3 h4 ⊢
  have d3 := dep_ties m.ts
  have d4 := dep_ints m.ks
  refine ⟨?_, ?_⟩
  · simp only [PyData.canLay0, PyData.canLayAll0, Bool.and_true, Bool.true_and, Bool.and_eq_true] at h1 h2 h3 h4 ⊢
    exact ⟨h3.1, h4.1, h1.1, h2.1⟩
  · simp only [PyData.depth, PyData.depthAll]
    omega
theorem good_weak : ([1, 2, 3, 4, 5] : List Nat).all (fun n => (List.range (n + 1)).all fun i => weakP (.tuple (((List.range i).map fun k : Nat => PyData.int k).take 3)) n) = true := by decide +kernel
theorem bad_weak : ([1, 2, 3, 4, 5] : List Int).all (fun n => !weakP (.tuple [.int n]) n) = true := by decide +kernel
def names6 : List PyData := [.str "hosts", .str "ties", .str "weak", .str "", .none, .int 5]
theorem no_but : names6.all (fun n => !wordIn n rules) = true := by decide +kernel
theorem good_two : wrongP (dfl (.int 2) (.tuple [t01])) = none := by decide +kernel
end K01

set_option Elab.async false
set_option linter.all false
set_option maxRecDepth 100000
set_option maxHeartbeats 1000000
namespace K01
open PySem L2 Dl PySem.Spec PyProof.Rows
open Evl (Ex fresh_back sz_of sz_lt ex_l ex_t sq_of st_of)
abbrev s36 : Stmt := top 36
abbrev q36 : Str := ("law" : Str) ++ ".<locals>."
abbrev N36 : List Str := ["script", "draw", "turn", "parts", "other", "net", "tie", "at", "late", "loose", "name"]
theorem sc36 : FnScope N36 ["script"] (defScope s36) := ⟨rfl, rfl, rfl, by decide +kernel, rfl, by decide +kernel, by decide +kernel⟩
theorem ixTA {X : Cx} {W : Wd} (h : X.K = W.K) : IxR X (rIxT W.K) := h ▸ ix_tup
theorem listTies (ts : List (Int × Int)) : ((List.range ts.length).map fun k => tieD (ts.getD k (0, 0))) = ts.map tieD := by
  apply List.ext_getElem
  · simp
  · intro i h1 h2
    simp at h1 h2 ⊢
    rw [List.getElem?_eq_getElem h2]
    rfl
/-- what is promised of the law: True, for each short script, with empty tables -/
def spLaw (W : Wd) (T : List (Addr × Str)) : Sp := fun vs H Q _ => ∃ (a : Addr) (ns : List Int), vs = [.ref a] ∧ ns.length ≤ 1000 ∧ (∀ p ∈ T, H p.1 = some (.tbl #[])) ∧ (∀ p ∈ T, p.1 ≠ a) ∧ SqL W.K H a (ns.map V.int) ∧ ∀ H', Q (.bl true) H'
section
variable {P : Program} {w : World} {W : Wd} {T : List (Addr × Str)} {mg : Str → Option Value} {base : Heap}
theorem ok36 {f c Pt' T0 : Addr} {fd : FuncData} (F : FunC W.K "law" "law" s36 f fd c) (B : Blt2 mg) (C29 : CLE P w W T mg base "_law_take" 2 ["draw", "many"] R29) (C30 : CLE P w W T mg base "_law_pick" 3 ["draw", "things"] R30) (C31 : CLE P w W T mg base "_law_parts" 4 ["draw", "most"] R31)
    (C32 : CX1 P w W mg base "_law_made" 8 ["parts"] R32) (C34 : CLE P w W T mg base "_law_ties_right" 10 ["hosts"] fun _ => R34) (C35 : CLE P w W T mg base "_law_rules_right" 11 ["draw", "parts", "other"] R35)
    (CB : CM P w W mg base 0 "but" 8 ["self", "name", "thing"] RBut) (CW : CM P w W mg base 0 "with_weak" 8 ["self", "weak"] RWk) (CE : EqF P w W mg base) (CLn : LenF P w W mg base) (CG : GetF P w W mg base) (N : NetF P w W mg base) (N2 : Net2 P w W mg base T0) (C : WrF P W mg) (LC : LamC ⟨0, 0, [], T⟩ base mg c Pt' (q36 ++ "<lambda>")) : FnOk P w W.K mg base (L2.CX P w) 12 f fd ["script"] (spLaw W T) := by
  obtain ⟨oc, od, kV, doc, pm, an, ct, osl, rfl, lk, hcd⟩ := F.ex
  refine fn_of lk hcd sc36 (fun vs H Q E h => ?_) (fun A outer s H vs Q E hr h => ?_)
  · obtain ⟨a, ns, rfl, _⟩ := h
    rfl
  have hr8 := hr.mono (j := 8) (by decide)
  have hr10 := hr.mono (j := 10) (by decide)
  have hu : (A.deeper (envOfC "law" (defScope s36) s.heap.objs.size f (.ref c))).units + 64 < cLine := by have := hr.un; omega
  refine ⟨_, pss_cons (ps_set (i := 1) sc36.nd rfl (.inl rfl) (pe_lst (pa_cons (pv 0) (pa_cons pe_int pa_nil))))
    (pss_cons (ps_for (passes_of rfl) rfl (pi_range1 (by rfl) B.range (pa_cons pe_int pa_nil)) (pg_name (i := 2) sc36.nd rfl (.inl rfl))
      (pss_cons (ps_asg (pe_tup (pa_cons (pe_cle C31 (hr.mono (by decide)) (pa_cons (pv 1) (pa_cons pe_int pa_nil))) (pa_cons (pe_cle C31 (hr.mono (by decide)) (pa_cons (pv 1) (pa_cons pe_int pa_nil))) pa_nil))) (pg_tup (by rfl) (pgs_cons (pg_name (i := 3) sc36.nd rfl (.inr rfl)) (pgs_cons (pg_name (i := 4) sc36.nd rfl (.inl rfl)) pgs_nil))))
      (pss_cons (ps_set (i := 5) sc36.nd rfl (.inr rfl) (pe_cx0 C32 hr8 (pa_cons (pv 3) pa_nil)))
      (pss_cons (ps_if (PW.pt (pw_or (pt_cmpR (op_neD hu) (pe_tup (pa_cons (pe_fld (pv 5) rfl) (pa_cons (pe_fld (pv 5) rfl) (pa_cons (pe_fld (pv 5) rfl) (pa_cons (pe_fld (pv 5) rfl) (pa_cons (pe_fld (pv 5) rfl) (pa_cons (pe_fld (pv 5) rfl) (pa_cons (pe_fld (pv 5) rfl) pa_nil)))))))) (pv 3) (nomark _)) (pw_or1 (pt_cmpR op_ne (pe_callB (callNetLen CLn (hr.mono (by decide)) passL) (by rfl) B.len PySem.boot_len (pa_cons (pv 5) pa_nil)) (pe_ix ix_tup (pv 3) pe_int (fun _ _ => rfl)) (nomark _))))) (pss_one (ps_ret pe_bl)) pss_nil)
      (pss_cons (ps_if (PW.pt (pw_or (pt_cmpR (op_neD hu) (pe_lc (own := [("tie", 6)]) (g := gName 6) (tt := tYes) rfl sc36.nd (pi_range1 (by rfl) B.range (pa_cons (pe_callB call_len_seq (by rfl) B.len PySem.boot_len (pa_cons (pe_ix ix_tup (pv 3) pe_int (fun _ _ => rfl)) pa_nil)) pa_nil)) (blkOk_by (N := N36) (sc := defScope s36) (by decide +kernel)) (fun _ _ _ _ _ => pg_name (i := 6) sc36.nd rfl (Or.inl rfl)) (fun _ _ _ _ _ => pts_nil) (fun _ _ _ _ _ => pe_netIx (W := W) (E := E0) CG (hr.mono (by decide)) passL (pv 5) (pv 6) rfl)) (pe_callTy call_list_of (by rfl) B.list (by decide +kernel) (pa_cons (pe_ix ix_tup (pv 3) pe_int (fun _ _ => rfl)) pa_nil)) (nomark _)) (pw_or1 (pt_cmpR op_ne (pe_wrong (k := 8) C LC hr10 (fun A outer s H E f c' hr2 => pe_netIx (W := W) CG (hr2.mono (by decide)) (passes_call (takes_of rfl rfl rfl rfl) fun _ _ _ _ z => z) (pv 5) (pe_un un_neg pe_int) rfl) (LamX.lamS_by (by rfl))) pe_str (nomark _))))) (pss_one (ps_ret pe_bl)) pss_nil)
      (pss_cons (ps_if (PW.pt (pw_or (pt_cmpR op_ne (pe_cmpR (opNetEq CE (hr.mono (by decide)) passL) (pv 5) (pe_cx0 C32 hr8 (pa_cons (pv 4) pa_nil)) (nomark _)) (pe_cmpR (op_eqD hu) (pv 3) (pv 4) (nomark _)) (nomark _)) (pw_or (pt_cmpR (opNetNe CE (hr.mono (by decide)) passL) (pv 5) (pe_cx0 C32 hr8 (pa_cons (pv 3) pa_nil)) (nomark _)) (pw_or1 (pt_cmpR (opNetEq CE (hr.mono (by decide)) passL) (pv 5) pe_int (nomark _)))))) (pss_one (ps_ret pe_bl)) pss_nil)
      (pss_cons (ps_for (passes_of rfl) rfl (pi_tup (pe_tup (pa_cons pe_int (pa_cons pe_int (pa_cons pe_int (pa_cons pe_int pa_nil)))))) (pg_name (i := 7) sc36.nd rfl (.inl rfl)) (pss_cons (ps_set (i := 8) sc36.nd rfl (.inl rfl) (pe_op op_catA (pe_op op_catA (pe_slice sl_tupA (pv 3) po_none (po_some (pv 7))) (pe_tup (pa_cons (pe_ix ix_tup (pv 4) (pv 7) (fun _ _ => rfl)) pa_nil))) (pe_slice sl_tupA (pv 3) (po_some (pe_op op_add (pv 7) pe_int)) po_none))) (pss_one (ps_if (pt_cmpR op_ne (pe_cmpR (opNetEq CE (hr.mono (by decide)) passL) (pv 5) (pe_cx0 C32 hr8 (pa_cons (pv 8) pa_nil)) (nomark _)) (pe_cmpR (op_eqD hu) (pv 3) (pv 8) (nomark _)) (nomark _)) (pss_one (ps_ret pe_bl)) pss_nil))))
      (pss_cons (ps_set (i := 9) sc36.nd rfl (.inl rfl) (pe_slice sl_tupA (pe_tupRg rfl (by rfl) B.tuple (prg_1 (by rfl) B.range (pe_cle C29 (hr.mono (by decide)) (pa_cons (pv 1) (pa_cons (pe_op op_add (pe_callB call_len_seq (by rfl) B.len PySem.boot_len (pa_cons (pe_ix ix_tup (pv 3) pe_int (fun _ _ => rfl)) pa_nil)) pe_int) pa_nil))))) po_none (po_some pe_int)))
      (pss_cons (ps_if (pt_cmpR (opNetNe CE (hr.mono (by decide)) passL) (pe_cm (pv 5) CW hr8 passL (pa_cons (pv 9) pa_nil)) (pe_cx0 C32 hr8 (pa_cons (pe_op op_catA (pe_op op_catA (pe_slice sl_tupA (pv 3) po_none (po_some pe_int)) (pe_tup (pa_cons (pv 9) pa_nil))) (pe_slice sl_tupA (pv 3) (po_some pe_int) po_none)) pa_nil)) (nomark _)) (pss_one (ps_ret pe_bl)) pss_nil)
      (pss_cons (ps_if (pt_cmpR op_ne (pe_wrong (k := 8) C LC hr10 (fun A outer s H E f c' hr2 => pe_cm (W := W) (c := 0) (R := RWk) (pv 5) CW hr2 (passes_call (takes_of rfl rfl rfl rfl) fun _ _ _ _ z => z) (pa_cons (pe_tup (pa_cons (pe_callB (callLen (W := W) rfl) (by rfl) B.len PySem.boot_len (pa_cons (pe_ix (ixTA (W := W) rfl) (pv 3) pe_int (fun _ _ => rfl)) pa_nil)) pa_nil)) pa_nil)) (LamX.lamS_by (by rfl))) pe_str (nomark _)) (pss_one (ps_ret pe_bl)) pss_nil)
      (pss_cons (ps_if (pt_cmpR op_ne (pe_wrong (k := 8) C LC hr10 (fun A outer s H E f c' hr2 => pe_netIx (W := W) CG (hr2.mono (by decide)) (passes_call (takes_of rfl rfl rfl rfl) fun _ _ _ _ z => z) (pv 5) (pe_callB (callLen (W := W) rfl) (by rfl) B.len PySem.boot_len (pa_cons (pe_ix (ixTA (W := W) rfl) (pv 3) pe_int (fun _ _ => rfl)) pa_nil)) rfl) (LamX.lamS_by (by rfl))) pe_str (nomark _)) (pss_one (ps_ret pe_bl)) pss_nil)
      (pss_cons (ps_set (i := 10) sc36.nd rfl (.inr rfl) (pe_cle C30 (hr.mono (by decide)) (pa_cons (pv 1) (pa_cons (pe_lst (pa_cons pe_str (pa_cons pe_str (pa_cons pe_str (pa_cons pe_str (pa_cons pe_non (pa_cons pe_int pa_nil))))))) pa_nil))))
      (pss_one (ps_if (PW.pt (pw_or (pt_cmpR op_notN (pe_wrong (k := 8) C LC hr10 (fun A outer s H E f c' hr2 => pe_cm (W := W) (c := 0) (R := RBut) (pv 5) CB hr2 (passes_call (takes_of rfl rfl rfl rfl) fun _ _ _ _ z => z) (pa_cons (pv 10) (pa_cons pe_int pa_nil))) (LamX.lamS_by (by rfl))) pe_non (nomark _)) (pw_or1 (pt_not (pt_val (pe_cle C35 hr (pa_cons (pv 1) (pa_cons (pv 3) (pa_cons (pv 4) pa_nil))))))))) (pss_one (ps_ret pe_bl)) pss_nil))))))))))))))
    (pss_cons (ps_if (pt_cmpR (opNetNe CE (hr.mono (by decide)) passL) (pe_two N2 (hr.mono (by decide)) passL (pa_cons pe_int (pa_cons (pe_tup (pa_cons (pe_tup (pa_cons pe_int (pa_cons pe_int pa_nil))) pa_nil)) pa_nil))) (pe_netK N (hr.mono (by decide)) passL (pa_cons pe_int (pa_cons (pe_tup (pa_cons (pe_tup (pa_cons pe_int (pa_cons pe_int pa_nil))) pa_nil)) pa_nil)) (pk_cons (pe_tup pa_nil) (pk_cons pe_int (pk_cons pe_str (pk_cons pe_str (pk_cons pe_int pk_nil)))))) (nomark _)) (pss_one (ps_ret pe_bl)) pss_nil)
    (pss_one (ps_ret (pe_and (pe_cle C34 (hr.mono (by decide)) (pa_cons pe_int pa_nil)) (pe_one (pe_cle C34 (hr.mono (by decide)) (pa_cons pe_int pa_nil)))))))), ?_⟩
  obtain ⟨a, ns, rfl, hns, htb, hta, hs, hQ⟩ := h
  -- the script's data, and the list of draws
  obtain ⟨P0, e0, hP0, nt0⟩ : ∃ P0 : Hp, Ex P0 H ∧ RelD W P0 (.ref a) (pL (ns.map PyData.int)) ∧ ∀ b o, P0 b = some o → b = a ∧ ∀ ps, o ≠ .tbl ps := by
    have all : ∀ {Pz : Hp} {l : List Int}, DpAll W.K Pz (l.map V.int) (l.map PyData.int) := fun {Pz l} => by
      induction l with
      | nil => exact .nil
      | cons i r ih => exact .cons (.int i) ih
    have at_ : ∀ {o : HO}, H a = some o → (∀ ps, o ≠ .tbl ps) → Ex (upd (fun _ => none) a o) H ∧ ∀ b u, upd (fun _ => none) a o b = some u → b = a ∧ ∀ ps, u ≠ .tbl ps := fun {o} ho ht => by
      refine ⟨fun b u q => ?_, fun b u q => ?_⟩
      · by_cases hb : b = a
        · subst hb
          rw [upd_same] at q
          rw [ho]
          exact q
        · rw [upd_ne hb] at q
          cases q
      · by_cases hb : b = a
        · subst hb
          rw [upd_same] at q
          cases q
          exact ⟨rfl, ht⟩
        · rw [upd_ne hb] at q
          cases q
    rcases hs with (z | ⟨o, z⟩) | z
    · obtain ⟨x1, x2⟩ := at_ z (fun ps z => by cases z)
      exact ⟨_, x1, Dp.lst (.inl (.inl upd_same)) all, x2⟩
    · obtain ⟨x1, x2⟩ := at_ z (fun ps z => by cases z)
      exact ⟨_, x1, Dp.lst (.inl (.inr ⟨o, upd_same⟩)) all, x2⟩
    · have ez : Ex (fun _ => none : Hp) H := fun b o q => by cases q
      exact ⟨_, ez, Dp.lst (.inr z) all, fun b o q => by cases q⟩
  have fd : ∀ {t2 : TS} {D : Ends}, (∀ q, H q = none → t2 D ((L2.start N36 [.ref a]).set 1 (some (.ref q))) (upd H q (.lst [.ref a, .int 0]))) → tSeq (tAsg (tLst (tCons (tVar 0) (tCons (tC (.int 0)) tNil))) (gName 1)) t2 D (L2.start N36 [.ref a]) H :=
    fun h => ⟨.ref a, rfl, (show (2 : Nat) ≤ sizeLine by rw [PySem.sizeLine_eq]; decide), fun q hq => h q hq⟩
  refine fd fun q hq => ?_
  have nPq := fresh_back e0 hq
  have hL : Fam T ⟨q, a, ns, T⟩ := ⟨rfl, hns⟩
  have lh : LH W ⟨q, a, ns, T⟩ P0 (upd H q (.lst [.ref a, .int 0])) := by
    have keep : ∀ b o, H b = some o → upd H q (.lst [.ref a, .int 0]) b = some o := fun b o z => by rw [upd_ne (ne_of_none z hq)]; exact z
    refine ⟨fun b o z => keep b o (e0 b o z), ⟨0, upd_same⟩, nPq, fun p hp => LamX.TabS.nil (keep _ _ (htb p hp)), fun p hp => ?_, fun p hp => ne_of_none (htb p hp) hq, hP0, fun b ps z => (nt0 b _ z).2 ps rfl⟩
    cases z : P0 p.1 with
    | none => rfl
    | some o => exact absurd (nt0 _ _ z).1 (hta p hp)
  have env : EnvD W [some (pL (ns.map PyData.int)), some (.at q), none, none, none, none, none, none, none, none, none] ((L2.start N36 [.ref a]).set 1 (some (.ref q))) P0 := (EnvD.start (N := N36) (ds := [pL (ns.map PyData.int)]) (.cons hP0 .nil)).set 1 (d := .at q) rfl
  refine (show SL W ⟨q, a, ns, T⟩ _ _ (fun _ => False) (fun d => d = pB true) from ?_) _ P0 _ _ lh env (fun _ _ _ _ z => z.elim) fun d v P' H' hd u r => ?_
  · have made : ∀ {ds : DS} {te : TE} {p : Pt} {E : XK}, ED W te ds (pT p.list) → EX W E (tCall (spR W R32) [] E (tCons te tNil)) ds (netR p) := fun h => ex_call (ea_cons h ea_nil) ⟨_, rfl, rfl⟩
    have okR : ∀ {p : Pt}, wrongP p = none → netR p = .ok (net p) := fun h => by unfold netR; rw [h]
    have t2 : ∀ {ds : DS} {x y : TE} {a b : PyData}, ED W x ds (.py a) → ED W y ds (.py b) → ED W (tTup (tCons x (tCons y tNil))) ds (.py (.tuple [a, b])) := fun h1 h2 => ed_tup (l := [_, _]) (ea_cons h1 (ea_cons h2 ea_nil)) (show (2 : Nat) ≤ 100000 by decide)
    have t1 : ∀ {ds : DS} {x : TE} {a : PyData}, ED W x ds (.py a) → ED W (tTup (tCons x tNil)) ds (.py (.tuple [a])) := fun h1 => ed_tup (l := [_]) (ea_cons h1 ea_nil) (show (1 : Nat) ≤ 100000 by decide)
    have errR : ∀ {p : Pt} {x : Str}, wrongP p = some x → wrongD (netR p) = some (pS x) := fun h => by
      unfold netR
      rw [h]
      show (if ("part" : Str) = "part" then some (pS _) else none) = _
      rw [if_pos rfl]
    have ne : ∀ {ds : DS} {te : XK → TE} {o : Res} {b : Str}, (∀ E, EX W E (te E) ds o) → wrongD o = some (pS b) → TL W ⟨q, a, ns, T⟩ (tTest (tOp rNe (LamX.tLam T (TTw W) te) (tC (.str b)))) ds (fun b => b = false) := fun h1 h2 =>
      tl_test (el_op (S := fun d => d = pB false) (el_wrong h1 h2) ed_str.el fun x y hx hy => by
        subst hx; subst hy
        exact ⟨_, rfl, rd_neS.cast3 (by simp)⟩) fun d hd => ⟨false, hd, rfl⟩
    refine sl_seq (sl_forR1 (hi := 4) (fun k ds' => ∃ o2 o3 o4 o5 o6 o7 o8 o9 o10, ds' = [some (pL (ns.map PyData.int)), some (.at q), o2, o3, o4, o5, o6, o7, o8, o9, o10]) (ea_cons ed_int ea_nil) ⟨none, none, none, none, none, none, none, none, none, rfl⟩ (by decide) fun kt ds' hkt e => ?_) fun ds' e => ?_
    · obtain ⟨o2, o3, o4, o5, o6, o7, o8, o9, o10, rfl⟩ := e
      have dp : ∀ {ds : DS}, ds[1]? = some (some (.at q)) → EL W ⟨q, a, ns, T⟩ (tCall (spE W T R31) [] E0 (tCons (tVar 1) (tCons (tC (.int 4)) tNil))) ds (fun d => ∃ p : Pt, wrongP p = none ∧ d = pT p.list) := fun h =>
        el_callE hL (EA.al (l := [.at q, pI 4]) (ea_cons (ed_var h) (ea_cons ed_int ea_nil))) fun l hl => by subst hl; exact ⟨rfl, rfl⟩
      refine sl_seq (sl_pairL (dp rfl) (dp rfl)) fun ds' e => ?_
      obtain ⟨_, _, ⟨p, hp, rfl⟩, ⟨r, hr', rfl⟩, rfl⟩ := e
      obtain ⟨m, rfl, hm⟩ := valid_nt hp
      have gp := (good_iff _).mp hp
      have gr := (good_iff _).mp hr'
      obtain ⟨mr, rfl, hmr⟩ := valid_nt hr'
      refine sl_seq (SD.sl (sd_asg (EX.ed ((made (E := E0) (ed_var (i := 3) rfl)).cast (okR hp))))) fun ds' e => ?_
      subst e
      have r0 : ∀ {ds : DS} {f : Str} {d : PyData}, ds[5]? = some (some (net m.pt)) → NoAttr W.K (W.cl 0) f → m.pt.fs.lookup f = some d → ED W (tFld W.K (tVar 5) f) ds (.py d) := fun h hn hl => ed_fld (ed_var h) N.c.cl hn hl
      have pT1 : ∀ {ds : DS}, ds[3]? = some (some (pT m.pt.list)) → ED W (tOp (rIxT W.K) (tVar 3) (tC (.int 1))) ds (pT (m.ts.map tieD)) := fun h => ed_op (ed_var h) ed_int (rd_ixT rfl)
      have pLn : ∀ {ds : DS}, ds[3]? = some (some (pT m.pt.list)) → ED W (tCB (fun xs H Q => ∃ p ys, xs = [.ref p] ∧ (SqL W.K H p ys ∨ SqT W.K H p ys) ∧ Q (.int ys.length) H) (tCons (tOp (rIxT W.K) (tVar 3) (tC (.int 1))) tNil)) ds (pI m.ts.length) := fun h => (ed_cb (ea_cons (pT1 h) ea_nil) (rda_len rfl)).cast (by rw [List.length_map])
      refine sl_seq (sl_never (ET.tl (b := false) ((et_or (et_test (ed_op (ed_tup (l := m.pt.list) (ea_cons (r0 rfl N.c.n1 rfl) (ea_cons (r0 rfl N.c.n2 rfl) (ea_cons (r0 rfl N.c.n3 rfl) (ea_cons (r0 rfl N.c.n4 rfl) (ea_cons (r0 rfl N.c.n5 rfl) (ea_cons (r0 rfl N.c.n6 rfl) (ea_cons (r0 rfl N.c.n7 rfl) ea_nil))))))) (show (7 : Nat) ≤ 100000 by decide)) (ed_var (i := 3) rfl) (rd_neD (sh_list hm) (sh_list hm)))) fun _ =>
        et_test (ed_op (ed_cb (ea_cons (ed_var (i := 5) rfl) ea_nil) (rda_netLen hm)) (ed_op (ed_var (i := 3) rfl) ed_int (rd_ixT (d := .int m.n) rfl)) rd_neI)).cast (by rw [eqv_parts, eqP_refl]; simp))) (fun z => by cases z)) fun ds' e => ?_
      subst e
      -- ties, and none before the first
      have getR : ∀ {i : Int}, ¬ (0 ≤ i ∧ i < (m.ts.length : Int)) → wrongD (if 0 ≤ i ∧ i < (m.ts.length : Int) then .ok (.py (tieD (m.ts.getD i.toNat (0, 0)))) else .error (.pl 2)) = some (pS "tie") := fun h => by
        rw [if_neg h]
        rfl
      have t5 := hm.t1
      have t0 := hm.t0
      refine sl_seq (sl_never (B := fun b => b = false) (tl_or (B2 := fun b => b = false) (ET.tl (b := false) ((et_test (ed_op (ed_lcR1 (hi := (m.ts.length : Int)) (fun _ => true) (fun k => tieD (m.ts.getD k (0, 0))) (ea_cons (pLn rfl) ea_nil) (by omega) (by omega) (fun _ _ => et_yes)
        (fun k hk _ => EX.ed ((ex_netIx (E := E0) hm (ed_var (i := 5) rfl) (ed_var (i := 6) (d := pI (k : Int)) rfl)).cast (by rw [if_pos (by omega)]; rfl)))) (ed_cb (ea_cons (pT1 rfl) ea_nil) rda_lstOf) (rd_neD (b := .list (m.ts.map tieD)) ?_ (sh_tiesL m.ts)))).cast ?_))
        (ne (fun E => ex_netIx hm (ed_var (i := 5) rfl) (ed_neg ed_int)) (getR (by omega))) (fun z => by cases z)) (fun z => by cases z)) fun ds' e => ?_
      · rw [fm_map, Int.toNat_natCast, listTies]
        exact sh_tiesL m.ts
      · rw [fm_map, Int.toNat_natCast, listTies]
        show (!PyData.eqv (.list (m.ts.map tieD)) (.list (m.ts.map tieD))) = false
        rw [PyData.eqv, eqv_ties]
        rfl
      subst e
      -- equality
      refine sl_seq (sl_never (ET.tl (b := false) ((et_or (et_test (ed_op (ed_op (ed_var (i := 5) rfl) (EX.ed ((made (E := E0) (ed_var (i := 4) rfl)).cast (okR hr'))) (rd_netEq hp hr')) (ed_op (ed_var (i := 3) rfl) (ed_var (i := 4) rfl) (rd_eqD (sh_list hm) (sh_list hmr))) rd_neB)) fun _ =>
        et_or (et_test (ed_op (ed_var (i := 5) rfl) (EX.ed ((made (E := E0) (ed_var (i := 3) rfl)).cast (okR hp))) (rd_netNe hp hp))) fun _ => et_test (ed_op (ed_var (i := 5) rfl) ed_int (rd_netEq5 hp))).cast (by rw [eqv_parts, eqP_refl]; simp))) (fun z => by cases z)) fun ds' e => ?_
      subst e
      -- another rule
      refine sl_seq (sl_forT (xs := [.int 3, .int 4, .int 5, .int 6]) (fun k ds' => ∃ o7 o8, ds' = [some (pL (ns.map PyData.int)), some (.at q), some (pI (kt : Int)), some (pT m.pt.list), some (pT mr.pt.list), some (net m.pt), o6, o7, o8, o9, o10]) (ed_tup (l := [.int 3, .int 4, .int 5, .int 6]) (ea_cons ed_int (ea_cons ed_int (ea_cons ed_int (ea_cons ed_int ea_nil)))) (by decide)) ⟨_, _, rfl⟩ fun k ds' x hx e => ?_) fun ds' e => ?_
      · obtain ⟨o7', o8', rfl⟩ := e
        obtain ⟨j, h3, h7, rfl⟩ : ∃ j : Nat, 3 ≤ j ∧ j < 7 ∧ x = .int j := by
          match k, hx with
          | 0, hx => exact ⟨3, by decide, by decide, (Option.some.inj hx).symm⟩
          | 1, hx => exact ⟨4, by decide, by decide, (Option.some.inj hx).symm⟩
          | 2, hx => exact ⟨5, by decide, by decide, (Option.some.inj hx).symm⟩
          | 3, hx => exact ⟨6, by decide, by decide, (Option.some.inj hx).symm⟩
          | n + 4, hx => cases hx
        obtain ⟨dk, hdk, gk, _, _⟩ := set_good gp gr j h3 h7
        have vk := (good_iff _).mpr gk
        have cut : ∀ {ds : DS} {te : TE} {x : PyData}, ds[3]? = some (some (pT m.pt.list)) → ds[7]? = some (some (pI (j : Int))) → ED W te ds (.py x) →
            ED W (tOp (rCatA W.K) (tOp (rCatA W.K) (tSl (rSlA W.K) (tVar 3) tNoPart (tPart (tVar 7))) (tTup (tCons te tNil))) (tSl (rSlA W.K) (tVar 3) (tPart (tOp (rI0 fun i j => .int (i + j)) (tVar 7) (tC (.int 1)))) tNoPart)) ds (pT (m.pt.setAt j x).list) := fun h1 h6 h =>
          (ed_op (ed_op (ed_slT (ed_var h1) eo_none (eo_some (ed_var h6))) (t1 h) (rd_catT (by rw [cut_take, List.length_take]; show min j 7 + 1 ≤ 100000; omega))) (ed_slT (ed_var h1) (eo_some (ed_op (ed_var h6) ed_int rd_I)) eo_none) (rd_catT (by
            rw [show ((j : Int) + 1) = ((j + 1 : Nat) : Int) by omega, cut_take, cut_drop, List.length_append, List.length_take, List.length_drop]
            show min j 7 + 1 + (7 - (j + 1)) ≤ 100000
            omega))).cast (by rw [show ((j : Int) + 1) = ((j + 1 : Nat) : Int) by omega, cut_take, cut_drop, setAt_list _ _ j h7])
        refine sl_seq (SD.sl (sd_asg (cut rfl rfl (ed_op (ed_var (i := 4) rfl) (ed_var (i := 7) rfl) (rd_ixT hdk))))) fun ds' e => ?_
        subst e
        have shl : SeqAt.shaped (.tuple (m.pt.setAt j dk).list) = true := by
          obtain ⟨mk, e1, h1⟩ := valid_nt vk
          rw [e1]
          exact sh_list h1
        exact (sl_never (ET.tl (b := false) ((et_test (ed_op (ed_op (ed_var (i := 5) rfl) (EX.ed ((made (E := E0) (ed_var (i := 8) rfl)).cast (okR vk))) (rd_netEq hp vk)) (ed_op (ed_var (i := 3) rfl) (ed_var (i := 8) rfl) (rd_eqD (sh_list hm) shl)) rd_neB)).cast (by rw [eqv_parts]; simp))) (fun z => by cases z)).imp fun d hd => ⟨_, _, hd⟩
      obtain ⟨o7', o8', rfl⟩ := e
      -- other weak ties
      refine sl_seq (sl_asg (el_cutT (hi := 3) (el_tupRg (n := (m.ts.length : Int) + 1) (el_callE (S := fun d => ∃ i, 0 ≤ i ∧ i < (m.ts.length : Int) + 1 ∧ d = pI i) hL (EA.al (l := [.at q, pI ((m.ts.length : Int) + 1)]) (ea_cons (ed_var (i := 1) rfl) (ea_cons (ed_op (pLn rfl) ed_int rd_I) ea_nil))) fun l hl => by subst hl; exact ⟨_, by omega, rfl, rfl⟩) (fun d hd => hd) (by omega)))) fun ds' e => ?_
      obtain ⟨_, ⟨l, rfl, i, i0, i1, rfl⟩, rfl⟩ := e
      rw [show (3 : Int) = ((3 : Nat) : Int) from rfl, cut_take]
      have hlen : m.ts.length ∈ ([1, 2, 3, 4, 5] : List Nat) := by
        have : m.ts.length = 1 ∨ m.ts.length = 2 ∨ m.ts.length = 3 ∨ m.ts.length = 4 ∨ m.ts.length = 5 := by omega
        simpa using this
      have lenP : lenOf m.pt.t = (m.ts.length : Int) := by
        show (((m.ts.map tieD).length : Nat) : Int) = _
        rw [List.length_map]
      have hwk := List.all_eq_true.mp (List.all_eq_true.mp good_weak m.ts.length hlen) i.toNat (List.mem_range.mpr (by omega))
      generalize hkk : (.tuple (((List.range i.toNat).map fun k : Nat => PyData.int k).take 3) : PyData) = kk at hwk
      have ekk : (D.py (.tuple (((List.range i.toNat).map fun k : Nat => PyData.int k).take 3))) = .py kk := by rw [hkk]
      rw [show (pT (((List.range i.toNat).map fun k : Nat => PyData.int k).take 3)) = .py kk from ekk]
      have vw : wrongP { m.pt with k := kk } = none := (good_iff _).mpr ⟨gp.h, gp.t, by rw [show lenOf ({ m.pt with k := kk } : Pt).t = (m.ts.length : Int) from lenP]; exact hwk, gp.e, gp.s, gp.c, gp.o⟩
      have wk : ∀ {ds : DS} {te : TE} {x : PyData} {E : XK}, ds[5]? = some (some (net m.pt)) → ED W te ds (.py x) → EX W E (tMeth (W.cl 0) "with_weak" (spR W RWk) [] E (tVar 5) (tCons te tNil)) ds (netR { m.pt with k := x }) := fun h4 h => ex_meth (ed_var h4) rfl (ea_cons h ea_nil) ⟨m, _, rfl, rfl⟩
      refine sl_seq (sl_never (ET.tl (b := false) ((et_test (ed_op (EX.ed ((wk (E := E0) rfl (ed_var (i := 9) rfl)).cast (okR vw))) (EX.ed ((made (E := E0) (p := { m.pt with k := kk }) ((ed_op (ed_op (ed_slT (ed_var (i := 3) rfl) eo_none (eo_some (ed_int (i := 2)))) (t1 (ed_var (i := 9) rfl)) (rd_catT (by rw [show (2 : Int) = ((2 : Nat) : Int) from rfl, cut_take]; exact (show (3 : Nat) ≤ 100000 by decide)))) (ed_slT (ed_var (i := 3) rfl) (eo_some (ed_int (i := 3))) eo_none)
        (rd_catT (by rw [show (2 : Int) = ((2 : Nat) : Int) from rfl, show (3 : Int) = ((3 : Nat) : Int) from rfl, cut_take, cut_drop]; exact (show (7 : Nat) ≤ 100000 by decide)))).cast (by rw [show (2 : Int) = ((2 : Nat) : Int) from rfl, show (3 : Int) = ((3 : Nat) : Int) from rfl, cut_take, cut_drop]; rfl))).cast (okR vw))) (rd_netNe vw vw))).cast (by
          obtain ⟨mk, e1, _⟩ := valid_nt vw
          rw [e1, eqP_refl]
          rfl))) (fun z => by cases z)) fun ds' e => ?_
      subst e
      have hbw := notT (List.all_eq_true.mp bad_weak (m.ts.length : Int) (by rw [← lenP]; exact g_len gp))
      have vb : wrongP { m.pt with k := .tuple [.int (m.ts.length : Int)] } = some "weak" := by
        have e1 : weakP (.tuple [.int (m.ts.length : Int)]) (lenOf m.pt.t) = false := by rw [lenP]; exact hbw
        simp [wrongP, shapeP, e1, gp.h, gp.t]
      refine sl_seq (sl_never (ne (fun E => wk rfl (t1 (pLn rfl))) (errR vb)) (fun z => by cases z)) fun ds' e => ?_
      subst e
      refine sl_seq (sl_never (ne (fun E => ex_netIx hm (ed_var (i := 5) rfl) (pLn rfl)) (getR (by omega))) (fun z => by cases z)) fun ds' e => ?_
      subst e
      -- no net by another name
      refine sl_seq (sl_asg (el_callE (S := fun d => ∃ x ∈ names6, d = .py x) hL (EA.al (l := [.at q, pL names6]) (ea_cons (ed_var (i := 1) rfl) (ea_cons (ed_lst (l := names6) (ea_cons ed_str (ea_cons ed_str (ea_cons ed_str (ea_cons ed_str (ea_cons ed_non (ea_cons ed_int ea_nil)))))) (by decide)) ea_nil))) fun l hl => by subst hl; exact ⟨_, by simp [names6], rfl, rfl⟩)) fun ds' e => ?_
      obtain ⟨_, ⟨name, hnm, rfl⟩, rfl⟩ := e
      have hno := notT (List.all_eq_true.mp no_but name hnm)
      refine (sl_never (B := fun b => b = false) (tl_or (B2 := fun b => b = false) (tl_test (el_op (S := fun d => d = pB false) (el_wrong (o := .error (.own 1 "part" .none)) (d := pN) (fun E => (ex_meth (ed_var (i := 5) rfl) rfl (ea_cons (ed_var (i := 10) rfl) (ea_cons ed_int ea_nil)) ⟨m, name, .int 3, rfl, rfl⟩).cast (butR_no hno)) ?_) ed_non.el fun x y hx hy => ?_) fun d hd => ⟨false, hd, rfl⟩)
        ((tl_not (B := fun b => b = true) (tl_B (B := fun b => b = true) (el_callE (S := fun d => d = pB true) hL (EA.al (l := [.at q, pT m.pt.list, pT mr.pt.list]) (ea_cons (ed_var (i := 1) rfl) (ea_cons (ed_var (i := 3) rfl) (ea_cons (ed_var (i := 4) rfl) ea_nil)))) fun l hl => by subst hl; exact ⟨m.pt, mr.pt, hp, hr', rfl, rfl⟩) fun d hd => ⟨true, hd, rfl⟩)).imp fun b h => by simpa using h) (fun z => by cases z)) (fun z => by cases z)).imp fun d hd => ⟨_, _, _, _, _, _, _, _, _, hd⟩
      · show (if ("part" : Str) = "part" then some (D.py .none) else none) = _
        rw [if_pos rfl]
      · subst hx; subst hy
        exact ⟨_, rfl, rd_notN⟩
    · obtain ⟨o2, o3, o4, o5, o6, o7, o8, o9, o10, rfl⟩ := e
      have t01' : ∀ {ds : DS}, ED W (tTup (tCons (tTup (tCons (tC (.int 0)) (tCons (tC (.int 1)) tNil))) tNil)) ds (.py (.tuple [t01])) := t1 (t2 ed_int ed_int)
      refine sl_seq (sl_never (ET.tl (b := false) ((et_test (ed_op (EX.ed ((ex_net2 (E := E0) N2.hT (ea_cons (ed_int (i := 2)) (ea_cons t01' ea_nil))).cast (okR good_two))) (EX.ed ((ex_netK (E := E0) (h := .int 2) (tt := .tuple [t01]) (k := .tuple []) (e := .int 4) (s := .str "plain") (c := .str "still") (o := .int 0) (ea_cons ed_int (ea_cons t01' ea_nil)) (ea_cons (ed_tup (l := []) ea_nil (by decide)) (ea_cons ed_int (ea_cons ed_str (ea_cons ed_str (ea_cons ed_int ea_nil)))))).cast (okR good_two))) (rd_netNe good_two good_two))).cast (by
        obtain ⟨mk, e1, _⟩ := valid_nt good_two
        show (!eqP (dfl (.int 2) (.tuple [t01])) (dfl (.int 2) (.tuple [t01]))) = false
        rw [e1, eqP_refl]
        rfl))) (fun z => by cases z)) fun ds' e => ?_
      subst e
      have tr : ∀ {ds : DS} (h : Int), h ∈ ([2, 4] : List Int) → EL W ⟨q, a, ns, T⟩ (tCall (spE W T fun _ => R34) [] E0 (tCons (tC (.int h)) tNil)) ds (fun d => d = pB true) := fun h hh => el_callE hL (EA.al (l := [pI h]) (ea_cons ed_int ea_nil)) fun l hl => by subst hl; exact ⟨h, hh, rfl, rfl⟩
      exact sl_ret (el_andT (tr 2 (by decide)) (tr 4 (by decide))) fun d hd => hd
  · subst hd
    cases r
    exact hQ H'
end
end K01

set_option Elab.async false
set_option linter.all false
set_option maxRecDepth 100000
set_option maxHeartbeats 1000000
/-! from what the top leaves to the law's promise -/
namespace K01
open PySem L2 Dl PySem.Spec PyProof.Rows
/-- the defs, as they stand behind the top -/
structure Fs (W : Wd) (mg : Str → Option Value) : Prop where
  g5 : ∃ f fd, Fun W.K "is_integer" "is_integer" s5 f fd ∧ mg "is_integer" = some (.ref f)
  g6 : ∃ f fd, Fun W.K "is_within" "is_within" s6 f fd ∧ mg "is_within" = some (.ref f)
  g7 : ∃ f fd, Fun W.K "is_word" "is_word" s7 f fd ∧ mg "is_word" = some (.ref f)
  g8 : ∃ f fd, Fun W.K "is_group" "is_group" s8 f fd ∧ mg "is_group" = some (.ref f)
  g9 : ∃ f fd, Fun W.K "is_rising" "is_rising" s9 f fd ∧ mg "is_rising" = some (.ref f)
  g21 : ∃ f fd, Fun W.K "is_tie" "is_tie" s21 f fd ∧ mg "is_tie" = some (.ref f)
  g22 : ∃ f fd, Fun W.K "are_ties" "are_ties" s22 f fd ∧ mg "are_ties" = some (.ref f)
  g23 : ∃ f fd, Fun W.K "are_weak" "are_weak" s23 f fd ∧ mg "are_weak" = some (.ref f)
  g24 : ∃ f fd, Fun W.K "wrong_rule" "wrong_rule" s24 f fd ∧ mg "wrong_rule" = some (.ref f)
  g25 : ∃ f fd, Fun W.K "wrong_shape" "wrong_shape" s25 f fd ∧ mg "wrong_shape" = some (.ref f)
  g28 : ∃ f fd, Fun W.K "_law_number" "_law_number" s28 f fd ∧ mg "_law_number" = some (.ref f)
  g29 : ∃ f fd, Fun W.K "_law_take" "_law_take" s29 f fd ∧ mg "_law_take" = some (.ref f)
  g30 : ∃ f fd, Fun W.K "_law_pick" "_law_pick" s30 f fd ∧ mg "_law_pick" = some (.ref f)
  g31 : ∃ f fd, Fun W.K "_law_parts" "_law_parts" s31 f fd ∧ mg "_law_parts" = some (.ref f)
  g32 : ∃ f fd, Fun W.K "_law_made" "_law_made" s32 f fd ∧ mg "_law_made" = some (.ref f)
  mEq : ∃ f fd, Fun W.K "__eq__" "Net.__eq__" sEq f fd ∧ PySem.W.findIn W.K (.ref (W.cl 0)) "__eq__" = some (some (.ref f)) ∧ PySem.W.isFn W.K (.ref f) = true ∧ NoNe W.K (W.cl 0) f
  mLen : ∃ f fd, Fun W.K "__len__" "Net.__len__" sLen f fd ∧ PySem.W.findIn W.K (.ref (W.cl 0)) "__len__" = some (some (.ref f)) ∧ PySem.W.isFn W.K (.ref f) = true
  mGet : ∃ f fd, Fun W.K "__getitem__" "Net.__getitem__" sGet f fd ∧ PySem.W.findIn W.K (.ref (W.cl 0)) "__getitem__" = some (some (.ref f)) ∧ PySem.W.isFn W.K (.ref f) = true ∧ PySem.W.fnIn W.K f = true
  mBut : ∃ f fd, Fun W.K "but" "Net.but" sBut f fd ∧ PySem.W.findIn W.K (.ref (W.cl 0)) "but" = some (some (.ref f)) ∧ PySem.W.isFn W.K (.ref f) = true ∧ PySem.W.fnIn W.K f = true
  mWk : ∃ f fd, Fun W.K "with_weak" "Net.with_weak" sWk f fd ∧ PySem.W.findIn W.K (.ref (W.cl 0)) "with_weak" = some (some (.ref f)) ∧ PySem.W.isFn W.K (.ref f) = true ∧ PySem.W.fnIn W.K f = true
  ini : ∃ (f : Addr) (fd : FuncData) (T : Addr), FunD W.K "__init__" "Net.__init__" (defArgs sNI) (defBody sNI) (defScope sNI) [] [(("weak" : Str), V.ref T), ("endless", .int 4), ("split", .str "plain"), ("cry", .str "still"), ("hold", .int 0)] f fd ∧ Mk W.K (W.cl 0) f ∧ ∀ P0 : Hp, Dp W.K P0 (.ref T) (.tuple [])
  blt : Blt mg
  cst : Cst W mg
  net : NetC W mg
  isi : NetI W mg
  nf : PySem.W.notFirst W.K (W.cl 0) (.type "int") = true
  tie : BadC W.K mg "BadTie" (W.cl 2)
theorem Blt.two {mg : Str → Option Value} (T : Blt mg) : Blt2 mg := ⟨T.int, T.sum, T.list, T.tuple, T.range, T.len, T.enum, T.all⟩
section
variable {P : Program} {w : World} {W : Wd} {mg : Str → Option Value} {base : Heap}
theorem law_ok {T : List (Addr × Str)} {f c c34 c35 p34 p35 p36 fB : Addr} {fd : FuncData} (F : Fs W mg) (B : PySem.ExP.SupTxt P W.K mg (W.cl 1) fB) (C : WrF P W mg) (F36 : FunC W.K "law" "law" s36 f fd c)
    (g34 : ∃ f fd, FunC W.K "_law_ties_right" "_law_ties_right" s34 f fd c34 ∧ mg "_law_ties_right" = some (.ref f)) (g35 : ∃ f fd, FunC W.K "_law_rules_right" "_law_rules_right" s35 f fd c35 ∧ mg "_law_rules_right" = some (.ref f))
    (L34 : LamC ⟨0, 0, [], T⟩ base mg c34 p34 (q34 ++ "<lambda>")) (L35 : LamC ⟨0, 0, [], T⟩ base mg c35 p35 (q35 ++ "<lambda>")) (L36 : LamC ⟨0, 0, [], T⟩ base mg c p36 (q36 ++ "<lambda>")) :
    FnOk P w W.K mg base (L2.CX P w) 12 f fd ["script"] (spLaw W T) := by
  have c5 : CD P w W mg base "is_integer" 1 ["thing"] F5 := by
    obtain ⟨f, fd, h, hm⟩ := F.g5
    exact ⟨f, fd, ok5 h F.blt, hm, h.kp, h.binds (ps := ["thing"]) fun _ _ _ _ _ _ us hl => match us, hl with | [_], _ => rfl⟩
  have c6 : CD P w W mg base "is_within" 2 ["thing", "least", "most"] F6 := by
    obtain ⟨f, fd, h, hm⟩ := F.g6
    exact ⟨f, fd, ok6 h c5, hm, h.kp, h.binds (ps := ["thing", "least", "most"]) fun _ _ _ _ _ _ us hl => match us, hl with | [_, _, _], _ => rfl⟩
  have c7 : CD P w W mg base "is_word" 1 ["thing", "words"] F7 := by
    obtain ⟨f, fd, h, hm⟩ := F.g7
    exact ⟨f, fd, ok7 h F.blt, hm, h.kp, h.binds (ps := ["thing", "words"]) fun _ _ _ _ _ _ us hl => match us, hl with | [_, _], _ => rfl⟩
  have c8 : CD P w W mg base "is_group" 1 ["thing", "size"] F8 := by
    obtain ⟨f, fd, h, hm⟩ := F.g8
    exact ⟨f, fd, ok8 h F.blt, hm, h.kp, h.binds (ps := ["thing", "size"]) fun _ _ _ _ _ _ us hl => match us, hl with | [_, _], _ => rfl⟩
  have c9 : CD P w W mg base "is_rising" 1 ["things"] F9 := by
    obtain ⟨f, fd, h, hm⟩ := F.g9
    exact ⟨f, fd, ok9 h F.blt, hm, h.kp, h.binds (ps := ["things"]) fun _ _ _ _ _ _ us hl => match us, hl with | [_], _ => rfl⟩
  have c21 : CD P w W mg base "is_tie" 3 ["thing", "hosts"] F21 := by
    obtain ⟨f, fd, h, hm⟩ := F.g21
    exact ⟨f, fd, ok21 h c6 c8, hm, h.kp, h.binds (ps := ["thing", "hosts"]) fun _ _ _ _ _ _ us hl => match us, hl with | [_, _], _ => rfl⟩
  have c22 : CD P w W mg base "are_ties" 4 ["things", "hosts"] F22 := by
    obtain ⟨f, fd, h, hm⟩ := F.g22
    exact ⟨f, fd, ok22 h F.blt F.cst c21 c9, hm, h.kp, h.binds (ps := ["things", "hosts"]) fun _ _ _ _ _ _ us hl => match us, hl with | [_, _], _ => rfl⟩
  have c23 : CD P w W mg base "are_weak" 3 ["things", "many"] F23 := by
    obtain ⟨f, fd, h, hm⟩ := F.g23
    exact ⟨f, fd, ok23 h F.blt F.cst c6 c9, hm, h.kp, h.binds (ps := ["things", "many"]) fun _ _ _ _ _ _ us hl => match us, hl with | [_, _], _ => rfl⟩
  have c24 : CD P w W mg base "wrong_rule" 3 ["endless", "split", "cry", "hold"] F24 := by
    obtain ⟨f, fd, h, hm⟩ := F.g24
    exact ⟨f, fd, ok24 h F.cst c6 c7, hm, h.kp, h.binds (ps := ["endless", "split", "cry", "hold"]) fun _ _ _ _ _ _ us hl => match us, hl with | [_, _, _, _], _ => rfl⟩
  have c25 : CD P w W mg base "wrong_shape" 5 ["hosts", "ties", "weak"] F25 := by
    obtain ⟨f, fd, h, hm⟩ := F.g25
    exact ⟨f, fd, ok25 h F.blt F.cst c6 c22 c23, hm, h.kp, h.binds (ps := ["hosts", "ties", "weak"]) fun _ _ _ _ _ _ us hl => match us, hl with | [_, _, _], _ => rfl⟩
  have nf : NetF P w W mg base := by
    obtain ⟨f, fd, T0, h, hM, hT⟩ := F.ini
    have ok := okNI (P := P) (w := w) (base := base) h F.net B c24 c25
    obtain ⟨ds, rv, bn⟩ := h.binds0 (ps := netP) 3 (by simp) rfl fun D doc pm an cdv ct us ks hl hk => by
      match us, hl with
      | [_, _, _], _ => match ks, hk with
        | [_, _, _, _, _], _ => exact ⟨_, _, _, _, _, _, rfl, rfl, _, _, _, _, _, _, rfl, rfl, _, _, _, _, _, _, rfl, rfl, _, _, _, _, _, _, rfl, rfl, _, _, _, _, _, _, rfl, rfl, rfl⟩
    obtain ⟨mv, kb⟩ := h.kbinds0 (ps := netP) 3 kwN [] (fun vs _ zs => vs ++ zs) (by simp) (by simp) (fun r1 _ r3 => r1.append r3) fun D doc pm an cdv ct us mv ws hl hm hk => by
      match us, hl with
      | [_, _, _], _ => match ws, hk with
        | [_, _, _, _, _], _ => match mv, hm with
          | [], _ => exact rfl
    exact ⟨F.net, f, fd, T0, ds, _, ok, hM, rv, bn, hT, kb⟩
  obtain ⟨T0, N2⟩ := nf.two
  have c28 : CX1 P w W mg base "_law_number" 1 ["script", "index"] R28 := by
    obtain ⟨f, fd, h, hm⟩ := F.g28
    exact ⟨f, fd, ok28 h F.blt.two, hm, h.kp, h.binds (ps := ["script", "index"]) fun _ _ _ _ _ _ us hl => match us, hl with | [_, _], _ => rfl⟩
  have c29 : CLE P w W T mg base "_law_take" 2 ["draw", "many"] R29 := by
    obtain ⟨f, fd, h, hm⟩ := F.g29
    exact ⟨f, fd, fun L hL => ok29 h F.blt.two hL.2 c28, hm, h.kp, h.binds (ps := ["draw", "many"]) fun _ _ _ _ _ _ us hl => match us, hl with | [_, _], _ => rfl⟩
  have c30 : CLE P w W T mg base "_law_pick" 3 ["draw", "things"] R30 := by
    obtain ⟨f, fd, h, hm⟩ := F.g30
    exact ⟨f, fd, fun L hL => ok30 h F.blt.two (c29.at hL), hm, h.kp, h.binds (ps := ["draw", "things"]) fun _ _ _ _ _ _ us hl => match us, hl with | [_, _], _ => rfl⟩
  have c31 : CLE P w W T mg base "_law_parts" 4 ["draw", "most"] R31 := by
    obtain ⟨f, fd, h, hm⟩ := F.g31
    exact ⟨f, fd, fun L hL => ok31 h F.blt.two (c29.at hL) (c30.at hL), hm, h.kp, h.binds (ps := ["draw", "most"]) fun _ _ _ _ _ _ us hl => match us, hl with | [_, _], _ => rfl⟩
  have c32 : CX1 P w W mg base "_law_made" 8 ["parts"] R32 := by
    obtain ⟨f, fd, h, hm⟩ := F.g32
    exact ⟨f, fd, ok32 h nf, hm, h.kp, h.binds (ps := ["parts"]) fun _ _ _ _ _ _ us hl => match us, hl with | [_], _ => rfl⟩
  have cb : CM P w W mg base 0 "but" 8 ["self", "name", "thing"] RBut := by
    obtain ⟨f, fd, h, h1, h2, h3⟩ := F.mBut
    exact ⟨⟨f, fd, okBut h F.cst nf B c7, ⟨h1, h2, h.kp⟩, h.binds (ps := ["self", "name", "thing"]) fun _ _ _ _ _ _ us hl => match us, hl with | [_, _, _], _ => rfl, h1, h2, h3⟩, F.net.cl⟩
  have cw : CM P w W mg base 0 "with_weak" 8 ["self", "weak"] RWk := by
    obtain ⟨f, fd, h, h1, h2, h3⟩ := F.mWk
    exact ⟨⟨f, fd, okWk h nf, ⟨h1, h2, h.kp⟩, h.binds (ps := ["self", "weak"]) fun _ _ _ _ _ _ us hl => match us, hl with | [_, _], _ => rfl, h1, h2, h3⟩, F.net.cl⟩
  have ce : EqF P w W mg base := by
    obtain ⟨f, fd, h, h1, h2, h3⟩ := F.mEq
    exact ⟨⟨f, fd, okEq h F.blt F.net F.isi, h.binds (ps := ["self", "other"]) fun _ _ _ _ _ _ us hl => match us, hl with | [_, _], _ => rfl, ⟨h1, h2⟩, h3⟩, F.nf⟩
  have cl : LenF P w W mg base := by
    obtain ⟨f, fd, h, h1, h2⟩ := F.mLen
    exact ⟨⟨f, fd, okLen h F.blt F.blt.range F.net, h.binds (ps := ["self"]) fun _ _ _ _ _ _ us hl => match us, hl with | [_], _ => rfl, ⟨h1, h2⟩⟩⟩
  have cg : GetF P w W mg base := by
    obtain ⟨f, fd, h, h1, h2, h3⟩ := F.mGet
    exact ⟨⟨f, fd, okGet h F.blt F.net F.tie c6, h.binds (ps := ["self", "at"]) fun _ _ _ _ _ _ us hl => match us, hl with | [_, _], _ => rfl, ⟨h1, h2⟩, h3⟩⟩
  have lamT : ∀ {L : Lw} {c p : Addr} {q : Str}, Fam T L → LamC ⟨0, 0, [], T⟩ base mg c p q → LamC L base mg c p q := fun hL h => ⟨h.TB, by rw [hL.1]; exact h.mT, by rw [hL.1]; exact h.un⟩
  have c34 : CLE P w W T mg base "_law_ties_right" 10 ["hosts"] fun _ => R34 := by
    obtain ⟨f, fd, h, hm⟩ := g34
    exact ⟨f, fd, fun L hL => ok34 h F.blt.two nf C (lamT hL L34), hm, h.kp, h.fn.binds (ps := ["hosts"]) fun _ _ _ _ _ _ us hl => match us, hl with | [_], _ => rfl⟩
  have c35 : CLE P w W T mg base "_law_rules_right" 11 ["draw", "parts", "other"] R35 := by
    obtain ⟨f, fd, h, hm⟩ := g35
    exact ⟨f, fd, fun L hL => ok35 h F.blt.two (c30.at hL) c32 cb ce C (lamT hL L35), hm, h.kp, h.fn.binds (ps := ["draw", "parts", "other"]) fun _ _ _ _ _ _ us hl => match us, hl with | [_, _, _], _ => rfl⟩
  exact ok36 F36 F.blt.two c29 c30 c31 c32 c34 c35 cb cw ce cl cg nf N2 C L36
end
end K01

set_option Elab.async false
set_option linter.all false
set_option maxRecDepth 100000
set_option maxHeartbeats 1000000
/-! the facts of the top, each of K alone -/
namespace K01
open PySem L2 Dl PySem.Spec PyProof.Rows
/-- a def of the module -/
structure DfK (K : PySem.W.Frag) (x : Str) (st : Stmt) : Prop where
  ex : ∃ (f : Addr) (oc : Value) (od : Option Addr) (kV dc pm : Value) (an : Option Addr) (cd ct : Value) (sl : Array (Option Value)), PySem.W.nsIn K mainGlobals x = some (some (.ref f)) ∧ K.lookup f = some ⟨oc, od, .func (PySem.W.fnOf x x (defArgs st) (defBody st) (defScope st) .none kV dc pm an cd ct), sl⟩ ∧
    PySem.W.codeIn K cd x = true ∧ PySem.W.keepIn K (.ref f) = true
/-- one that makes lambdas, its code object at c, the table at p -/
structure DlK (K : PySem.W.Frag) (x : Str) (st : Stmt) (c p : Addr) : Prop where
  ex : ∃ (f : Addr) (oc : Value) (od : Option Addr) (kV dc pm : Value) (an : Option Addr) (ct : Value) (sl : Array (Option Value)), PySem.W.nsIn K mainGlobals x = some (some (.ref f)) ∧ K.lookup f = some ⟨oc, od, .func (PySem.W.fnOf x x (defArgs st) (defBody st) (defScope st) .none kV dc pm an (.ref c) ct), sl⟩ ∧
    PySem.W.codeIn K (.ref c) x = true ∧ PySem.W.keepIn K (.ref f) = true
  hd : PySem.W.codeHdIn K c p = true
  nt : K.lookup p = none
/-- a method of the class at C -/
structure MtK (K : PySem.W.Frag) (C : Addr) (x q : Str) (st : Stmt) : Prop where
  ex : ∃ (f : Addr) (oc : Value) (od : Option Addr) (kV dc pm : Value) (an : Option Addr) (cd ct : Value) (sl : Array (Option Value)), PySem.W.findIn K (.ref C) x = some (some (.ref f)) ∧ K.lookup f = some ⟨oc, od, .func (PySem.W.fnOf x q (defArgs st) (defBody st) (defScope st) .none kV dc pm an cd ct), sl⟩ ∧
    PySem.W.codeIn K cd q = true ∧ PySem.W.keepIn K (.ref f) = true ∧ PySem.W.isFn K (.ref f) = true ∧ PySem.W.fnIn K f = true
theorem DfK.get {K : PySem.W.Frag} {h : Heap} {mg : Str → Option Value} {x : Str} {st : Stmt} (D : DfK K x st) (X : K.In h) (G : h.Ns mainGlobals mg) : ∃ f fd, Fun K x x st f fd ∧ mg x = some (.ref f) := by
  obtain ⟨f, oc, od, kV, dc, pm, an, cd, ct, sl, a, l, c, k⟩ := D.ex
  exact ⟨f, _, fun_mk l c k, PySem.W.mg_of X G a⟩
theorem DlK.get {K : PySem.W.Frag} {h : Heap} {mg : Str → Option Value} {x : Str} {st : Stmt} {c p : Addr} (D : DlK K x st c p) (X : K.In h) (G : h.Ns mainGlobals mg) : ∃ f fd, FunC K x x st f fd c ∧ mg x = some (.ref f) := by
  obtain ⟨f, oc, od, kV, dc, pm, an, ct, sl, a, l, c', k⟩ := D.ex
  exact ⟨f, _, ⟨⟨oc, od, kV, dc, pm, an, ct, sl, rfl, l, c'⟩, k⟩, PySem.W.mg_of X G a⟩
theorem MtK.get {K : PySem.W.Frag} {C : Addr} {x q : Str} {st : Stmt} (D : MtK K C x q st) : ∃ f fd, Fun K x q st f fd ∧ PySem.W.findIn K (.ref C) x = some (some (.ref f)) ∧ PySem.W.isFn K (.ref f) = true ∧ PySem.W.fnIn K f = true := by
  obtain ⟨f, oc, od, kV, dc, pm, an, cd, ct, sl, a, l, c, k, i, n⟩ := D.ex
  exact ⟨f, _, fun_mk l c k, a, i, n⟩
end K01

set_option Elab.async false
set_option linter.all false
set_option maxRecDepth 100000
set_option maxHeartbeats 1000000
/-! all that is asked of K, and the law from it -/
namespace K01
open PySem L2 Dl PySem.Spec PyProof.Rows
/-- a tuple of texts of the module -/
def TxtT (K : PySem.W.Frag) (x : Str) (ws : List Str) : Prop := ∃ (a : Addr) (o : Obj) (its : Array Value) (n : Nat), PySem.W.nsIn K mainGlobals x = some (some (.ref a)) ∧ K.lookup a = some o ∧ o.cls = .type "tuple" ∧ o.data = .seq its n ∧ its.size ≤ sizeLine ∧ Vals (ws.map V.str) its.toList
theorem dpa_txt {K : PySem.W.Frag} {H : Hp} : ∀ ws : List Str, DpAll K H (ws.map V.str) (ws.map PyData.str)
  | [] => .nil
  | w :: ws => .cons (.str w) (dpa_txt ws)
theorem TxtT.get {K : PySem.W.Frag} {h : Heap} {mg : Str → Option Value} {x : Str} {ws : List Str} (D : TxtT K x ws) (X : K.In h) (G : h.Ns mainGlobals mg) : ∃ a, mg x = some (.ref a) ∧ ∀ P, Dp K P (.ref a) (.tuple (ws.map PyData.str)) := by
  obtain ⟨a, o, its, n, h1, h2, h3, h4, h5, h6⟩ := D
  exact ⟨a, PySem.W.mg_of X G h1, fun P => .tup (.inr ⟨o, its, n, h2, h3, h4, h5, h6⟩) (dpa_txt ws)⟩
structure NetK (K : PySem.W.Frag) (C : Addr) : Prop where
  g : PySem.W.nsIn K mainGlobals "Net" = some (some (.ref C))
  pg : PySem.W.plainGet K C Str.empty = true
  hd : PySem.W.hasDictIn K C = true
  po : PySem.W.plainOver K C = true
  sa : PySem.W.findIn K (.ref C) "__setattr__" = some (some (.builtin "object.__setattr__"))
  n1 : PySem.W.findIn K (.ref C) "hosts" = some none
  n2 : PySem.W.findIn K (.ref C) "ties" = some none
  n3 : PySem.W.findIn K (.ref C) "weak" = some none
  n4 : PySem.W.findIn K (.ref C) "endless" = some none
  n5 : PySem.W.findIn K (.ref C) "split" = some none
  n6 : PySem.W.findIn K (.ref C) "cry" = some none
  n7 : PySem.W.findIn K (.ref C) "hold" = some none
  ca : PySem.W.findIn K (.ref C) "__class__" = some (some (.builtin "object.__class__"))
  cn : PySem.W.specialIn K (.builtin "object.__class__") "__get__" = some (some (.builtin "getset_descriptor.__get__"))
  ct : PySem.W.takesIn K (.builtin "object.__class__") = some true
  cm : PySem.W.mroIn K C (.type "object") = some true
  k1 : PySem.W.kitOne K (.ref C) (.ref C) = some true
  k0 : PySem.W.kitOne K (.type "int") (.ref C) = some false
  nf : PySem.W.notFirst K C (.type "int") = true
structure IniK (K : PySem.W.Frag) (C : Addr) : Prop where
  ex : ∃ (f T D : Addr) (oc : Value) (od : Option Addr) (doc pm : Value) (an : Option Addr) (cdv ct : Value) (osl : Array (Option Value)) (oT : Obj) (its : Array Value) (n : Nat) (t1 t2 t3 t4 : Tok),
    PySem.W.makesIn K C = true ∧ PySem.W.findIn K (.ref C) "__init__" = some (some (.ref f)) ∧ PySem.W.isFn K (.ref f) = true ∧ PySem.W.keepIn K (.ref C) = true ∧
    K.lookup f = some ⟨oc, od, .func (PySem.W.fnOf "__init__" "Net.__init__" (defArgs sNI) (defBody sNI) (defScope sNI) .none (.ref D) doc pm an cdv ct), osl⟩ ∧ PySem.W.codeIn K cdv "Net.__init__" = true ∧ PySem.W.keepIn K (.ref f) = true ∧
    PySem.W.nsIn K D "weak" = some (some (.ref T)) ∧ PySem.W.nsIn K D "endless" = some (some (.int 4 t1)) ∧ PySem.W.nsIn K D "split" = some (some (.str "plain" t2)) ∧ PySem.W.nsIn K D "cry" = some (some (.str "still" t3)) ∧ PySem.W.nsIn K D "hold" = some (some (.int 0 t4)) ∧
    K.lookup T = some oT ∧ oT.cls = .type "tuple" ∧ oT.data = .seq its n ∧ its.size ≤ sizeLine ∧ Vals [] its.toList
theorem IniK.get {K : PySem.W.Frag} {C : Addr} (I : IniK K C) : ∃ (f : Addr) (fd : FuncData) (T : Addr), FunD K "__init__" "Net.__init__" (defArgs sNI) (defBody sNI) (defScope sNI) [] [(("weak" : Str), V.ref T), ("endless", .int 4), ("split", .str "plain"), ("cry", .str "still"), ("hold", .int 0)] f fd ∧ Mk K C f ∧ ∀ P0 : Hp, Dp K P0 (.ref T) (.tuple []) := by
  obtain ⟨f, T, D, oc, od, doc, pm, an, cdv, ct, osl, oT, its, n, t1, t2, t3, t4, mk, fi, isf, kc, l, c, k, w1, w2, w3, w4, w5, lT, cT, dT, sT, vT⟩ := I.ex
  refine ⟨f, _, T, ⟨⟨oc, od, .none, .ref D, doc, pm, an, cdv, ct, osl, rfl, l, c, .inl ⟨rfl, rfl⟩, .inr ⟨D, rfl, fun q hq => ?_⟩⟩, k⟩, ⟨mk, fi, isf, kc⟩, fun P0 => .tup (.inr ⟨oT, its, n, lT, cT, dT, sT, vT⟩) .nil⟩
  simp only [List.mem_cons, List.not_mem_nil, or_false] at hq
  rcases hq with rfl | rfl | rfl | rfl | rfl
  · exact ⟨_, w1, rfl⟩
  · exact ⟨_, w2, _, rfl⟩
  · exact ⟨_, w3, _, rfl⟩
  · exact ⟨_, w4, _, rfl⟩
  · exact ⟨_, w5, _, rfl⟩
structure SupK (P : Program) (K : PySem.W.Frag) (C : Addr) : Prop where
  ex : ∃ fI : Addr, (∃ nm q N bs bm sn sub ab col dd k0 k1 k2 k3 k5, K.lookup C = some (excClassObj nm q C N bs bm true sn sub ab col dd k0 k1 k2 k3 k5 "ValueError.__new__") ∧ HandSPX.refsVE bm = true) ∧
    PySem.W.findIn K (.ref C) "__setattr__" = some (some (.builtin "object.__setattr__")) ∧ PySem.W.findIn K (.ref C) "part" = some none ∧ PySem.W.findIn K (.ref C) "__init__" = some (some (.ref fI)) ∧ PySem.W.typeIn K (.ref fI) = some (.type "function") ∧
    PySem.W.keepIn K (.ref C) = true ∧ PySem.W.subIn K (.ref C) (.type "BaseException") = some true ∧ PySem.W.subIn K (.ref C) (.type "ValueError") = some true ∧ PySem.W.typeIn K (.ref C) = some (.type "type") ∧ PySem.W.hasDictIn K C = true ∧
    PySem.W.findIn K (.ref C) "__getattribute__" = some (some (.builtin "BaseException.__getattribute__")) ∧ PySem.W.findIn K (.ref C) "__getattr__" = some none ∧ PySem.W.exmOne K (.ref C) (.ref C) = some true ∧ PySem.W.ks_superIn K C C "__init__" = some (some (.builtin "ValueError.__init__")) ∧
    PySem.W.mroIn K C (.ref C) = some true ∧ PySem.W.nsIn K cStatics "thirdparty.any" = some none ∧ PySem.W.nsIn K mainGlobals "super" = some none ∧ PySem.W.nsIn K mainGlobals "BadNet" = some (some (.ref C)) ∧
    (∃ (oc : Value) (od : Option Addr) (k : Const) (kV doc pm : Value) (dV : Addr) (an : Option Addr) (ct : Value) (osl : Array (Option Value)) (cda cc : Addr) (qual msg : Str) (p1 p2 p3 q1 q2 q3 q4 q5 q6 q7 q8 q9 q10 q11 q12 q13 : Pos),
    K.lookup fI = some ⟨oc, od, .func (PySem.W.ksFn "__init__" qual (PySem.ExP.iA p1 p2 p3 k) (PySem.ExP.iB msg q1 q2 q3 q4 q5 q6 q7 q8 q9 q10 q11 q12 q13) PySem.ExP.iS (.ref dV) kV doc pm an (.ref cda) ct cc), osl⟩ ∧ PySem.W.codeIn K (.ref cda) qual = true ∧ msg.length ≤ 1000 ∧ (q3.endLine == q8.line) = true ∧
    (∃ (o : Obj) (its : List Value) (n : Nat), K.lookup dV = some o ∧ o.data = .seq its.toArray n ∧ its.length = 1) ∧
    (∃ (cl : Value) (cld : Option Addr) (csl : Array (Option Value)), K.lookup cc = some ⟨cl, cld, .cell (some (.ref C)), csl⟩) ∧
    (∃ (ccl : Value) (cdd : Option Addr) (vs : Array Value) (ccs : Array (Option Value)) (file : Str) (tf : Tok), K.lookup cda = some ⟨ccl, cdd, .fields vs, ccs⟩ ∧ vs[2]? = some (.str file tf) ∧ ((P.main.file : Str) == file) = true)) ∧
    (P.main.scope.names.lookup ("super" : Str)).isSome = false
theorem SupK.get {P : Program} {K : PySem.W.Frag} {C : Addr} {h : Heap} {mg : Str → Option Value} (D : SupK P K C) (X : K.In h) (G : h.Ns mainGlobals mg) : ∃ fI, PySem.ExP.SupTxt P K mg C fI := by
  obtain ⟨fI, a1, a2, a3, a4, a5, a6, a7, a8, a9, a10, a11, a12, a13, a14, a15, a16, a17, a18, a19, a20⟩ := D.ex
  exact ⟨fI, a1, a2, a3, a4, a5, a6, a7, a8, a9, a10, a11, a12, a13, a14, a15, a16, PySem.W.mg_none_of X G a17, PySem.W.mg_of X G a18, a19, a20⟩
structure TieK (K : PySem.W.Frag) (C CB : Addr) : Prop where
  ex : PySem.W.excIn K C [.type "ValueError", .type "Exception", .type "BaseException", .type "object"] "ValueError.__new__" = true
  g : PySem.W.nsIn K mainGlobals "BadTie" = some (some (.ref C))
  kp : PySem.W.keepIn K (.ref C) = true
  bx : PySem.W.subIn K (.ref C) (.type "BaseException") = some true
  ty : PySem.W.typeIn K (.ref C) = some (.type "type")
  t1 : PySem.W.exmOne K (.ref CB) (.ref CB) = some true
  t2 : PySem.W.exmOne K (.ref C) (.ref CB) = some false
  t3 : PySem.W.exmOne K (.ref C) (.ref C) = some true
def Int0 (K : PySem.W.Frag) (x : Str) (i : Int) : Prop := ∃ t, PySem.W.nsIn K mainGlobals x = some (some (.int i t))
structure DefsK (K : PySem.W.Frag) : Prop where
  d5 : DfK K "is_integer" s5
  d6 : DfK K "is_within" s6
  d7 : DfK K "is_word" s7
  d8 : DfK K "is_group" s8
  d9 : DfK K "is_rising" s9
  d21 : DfK K "is_tie" s21
  d22 : DfK K "are_ties" s22
  d23 : DfK K "are_weak" s23
  d24 : DfK K "wrong_rule" s24
  d25 : DfK K "wrong_shape" s25
  d28 : DfK K "_law_number" s28
  d29 : DfK K "_law_take" s29
  d30 : DfK K "_law_pick" s30
  d31 : DfK K "_law_parts" s31
  d32 : DfK K "_law_made" s32
  d33 : DfK K "_law_wrong" s33
  b1 : PySem.W.nsIn K mainGlobals "isinstance" = some none
  b2 : PySem.W.nsIn K mainGlobals "int" = some none
  b3 : PySem.W.nsIn K mainGlobals "bool" = some none
  b4 : PySem.W.nsIn K mainGlobals "str" = some none
  b5 : PySem.W.nsIn K mainGlobals "tuple" = some none
  b6 : PySem.W.nsIn K mainGlobals "list" = some none
  b7 : PySem.W.nsIn K mainGlobals "len" = some none
  b8 : PySem.W.nsIn K mainGlobals "all" = some none
  b9 : PySem.W.nsIn K mainGlobals "range" = some none
  b10 : PySem.W.nsIn K mainGlobals "sum" = some none
  b11 : PySem.W.nsIn K mainGlobals "enumerate" = some none
  i1 : Int0 K "LEAST_HOSTS" 2
  i2 : Int0 K "MOST_HOSTS" 4
  i3 : Int0 K "MOST_TIES" 5
  i4 : Int0 K "MOST_WEAK" 3
  i5 : Int0 K "LEAST_ENDLESS" 2
  i6 : Int0 K "MOST_ENDLESS" 5
  i7 : Int0 K "MOST_HOLD" 2
  r1 : TxtT K "RULES" rules
  r2 : TxtT K "SPLITS" splits
  r3 : TxtT K "CRIES" cries
structure MetK (K : PySem.W.Frag) (C : Addr) : Prop where
  mEq : MtK K C "__eq__" "Net.__eq__" sEq
  mNe : ∃ f, PySem.W.findIn K (.ref C) "__eq__" = some (some (.ref f)) ∧ NoNe K C f
  mLen : MtK K C "__len__" "Net.__len__" sLen
  mGet : MtK K C "__getitem__" "Net.__getitem__" sGet
  mBut : MtK K C "but" "Net.but" sBut
  mWk : MtK K C "with_weak" "Net.with_weak" sWk
def CLS (C CB CT : Addr) : Nat → Addr
  | 0 => C
  | 1 => CB
  | _ => CT
theorem fin {l : PySem.W.OpenLaw} {w : World} {K : PySem.W.Frag} {h : Heap} {mg : Str → Option Value} {fa C CB CT c34 c35 c36 p34 p35 p36 : Addr} (X : K.In h) (G : h.Ns mainGlobals mg) (hfa : mg "law" = some (.ref fa)) (D : DefsK K) (M : MetK K C) (N : NetK K C) (I : IniK K C) (S : SupK l.prog K CB) (T : TieK K CT CB)
    (L34 : DlK K "_law_ties_right" s34 c34 p34) (L35 : DlK K "_law_rules_right" s35 c35 p35) (L36 : DlK K "law" s36 c36 p36) (n1 : p34 ≠ p35) (n2 : p34 ≠ p36) (n3 : p35 ≠ p36) (TT : ∀ p ∈ [p34, p35, p36], h.get? p = some { cls := .none, data := .fields #[] }) :
    LamX.LawAtS l w K (L2.CX l.prog w) 12 63 "script" mg fa h := by
  obtain ⟨fB, hB⟩ := S.get X G
  obtain ⟨oc, od, kV, doc, pm, an, ct, sl, ga, lk, hc, hk⟩ := D.d5.ex
  clear ga lk hc hk
  obtain ⟨f6, oc, od, kV, doc, pm, an, ct, sl, ga, lk, hc, hk⟩ := L36.ex
  have e := hfa.symm.trans (PySem.W.mg_of X G ga)
  cases e
  have F36 : FunC K "law" "law" s36 fa _ c36 := ⟨⟨oc, od, kV, doc, pm, an, ct, sl, rfl, lk, hc⟩, hk⟩
  let W : Wd := ⟨K, CLS C CB CT⟩
  obtain ⟨f33, fd33, h33, g33⟩ := D.d33.get X G
  have BL : Blt mg := ⟨PySem.W.mg_none_of X G D.b1, PySem.W.mg_none_of X G D.b2, PySem.W.mg_none_of X G D.b3, PySem.W.mg_none_of X G D.b4, PySem.W.mg_none_of X G D.b5, PySem.W.mg_none_of X G D.b6, PySem.W.mg_none_of X G D.b7, PySem.W.mg_none_of X G D.b8, PySem.W.mg_none_of X G D.b9, PySem.W.mg_none_of X G D.b10, PySem.W.mg_none_of X G D.b11⟩
  have ig : ∀ {x : Str} {i : Int}, Int0 K x i → ∃ t, mg x = some (.int i t) := fun ⟨t, q⟩ => ⟨t, PySem.W.mg_of X G q⟩
  have CS : Cst W mg := ⟨ig D.i1, ig D.i2, ig D.i3, ig D.i4, ig D.i5, ig D.i6, ig D.i7, D.r1.get X G, D.r2.get X G, D.r3.get X G⟩
  have NC : NetC W mg := ⟨⟨N.pg, N.hd, N.po, N.sa⟩, N.n1, N.n2, N.n3, N.n4, N.n5, N.n6, N.n7, PySem.W.mg_of X G N.g⟩
  have NI : NetI W mg := ⟨N.ca, N.cn, N.ct, N.cm, N.k1, N.k0⟩
  have BT : BadC W.K mg "BadTie" (W.cl 2) := ⟨T.ex, PySem.W.mg_of X G T.g, T.kp, T.bx, T.ty⟩
  have fs : Fs W mg := by
    refine ⟨D.d5.get X G, D.d6.get X G, D.d7.get X G, D.d8.get X G, D.d9.get X G, D.d21.get X G, D.d22.get X G, D.d23.get X G, D.d24.get X G, D.d25.get X G, D.d28.get X G, D.d29.get X G, D.d30.get X G, D.d31.get X G, D.d32.get X G, ?_, ?_, M.mGet.get, M.mBut.get, M.mWk.get, I.get, BL, CS, NC, NI, N.nf, BT⟩
    · obtain ⟨f, fd, h1, h2, h3, _⟩ := M.mEq.get
      obtain ⟨f', e', ne⟩ := M.mNe
      have ef := h2.symm.trans e'
      cases ef
      exact ⟨f, fd, h1, h2, h3, ne⟩
    · obtain ⟨f, fd, h1, h2, h3, _⟩ := M.mLen.get
      exact ⟨f, fd, h1, h2, h3⟩
  have WF : WrF l.prog W mg := ⟨⟨f33, fd33, h33, g33⟩, ⟨fB, hB⟩, ⟨T.t1, T.t2, T.t3⟩, PySem.W.mg_of X G T.g⟩
  let TS : List (Addr × Str) := [(p34, q34 ++ "<lambda>"), (p35, q35 ++ "<lambda>"), (p36, q36 ++ "<lambda>")]
  refine ⟨PySem.W.fnOf "law" "law" (defArgs s36) (defBody s36) (defScope s36) .none kV doc pm an (.ref c36) ct, [(c34, p34), (c35, p35), (c36, p36)], spLaw W TS, fun p hp => ?_, fun p hp => ?_, fun p hp => ?_, fun s u => .of_eq rfl, fun H a ns hl _ hH hS => ?_, fun base KX GB TB => ?_⟩
  · simp only [List.mem_cons, List.not_mem_nil, or_false] at hp
    rcases hp with rfl | rfl | rfl <;> exact TT _ (by simp)
  · simp only [List.mem_cons, List.not_mem_nil, or_false] at hp
    rcases hp with rfl | rfl | rfl
    · exact L34.nt
    · exact L35.nt
    · exact L36.nt
  · simp only [List.mem_cons, List.not_mem_nil, or_false] at hp
    rcases hp with rfl | rfl | rfl
    · exact PySem.W.codeHd_of_K X L34.hd
    · exact PySem.W.codeHd_of_K X L35.hd
    · exact PySem.W.codeHd_of_K X L36.hd
  · have key : ∀ p, K.lookup p = none → H p = some (.tbl #[]) → p ≠ a := fun p hp ht e => by
      subst e
      rcases hS with (z | ⟨o, z⟩) | ⟨o, its, n, z, _⟩
      · rw [ht] at z; cases z
      · rw [ht] at z; cases z
      · rw [hp] at z; cases z
    refine ⟨a, ns, rfl, by omega, fun p hp => ?_, fun p hp => ?_, hS, fun _ => rfl⟩
    · simp only [TS, List.mem_cons, List.not_mem_nil, or_false] at hp
      rcases hp with rfl | rfl | rfl
      · exact hH (c34, p34) (by simp)
      · exact hH (c35, p35) (by simp)
      · exact hH (c36, p36) (by simp)
    · simp only [TS, List.mem_cons, List.not_mem_nil, or_false] at hp
      rcases hp with rfl | rfl | rfl
      · exact key _ L34.nt (hH (c34, p34) (by simp))
      · exact key _ L35.nt (hH (c35, p35) (by simp))
      · exact key _ L36.nt (hH (c36, p36) (by simp))
  · refine law_ok (W := W) (T := TS) fs hB WF F36 (L34.get X G) (L35.get X G) ⟨TB (c34, p34) (by simp), by simp [TS], fun p hp e => ?_⟩ ⟨TB (c35, p35) (by simp), by simp [TS], fun p hp e => ?_⟩ ⟨TB (c36, p36) (by simp), by simp [TS], fun p hp e => ?_⟩
    all_goals
      simp only [TS, List.mem_cons, List.not_mem_nil, or_false] at hp
      rcases hp with rfl | rfl | rfl
    · rfl
    · exact absurd e.symm n1
    · exact absurd e.symm n2
    · exact absurd e n1
    · rfl
    · exact absurd e.symm n3
    · exact absurd e n2
    · exact absurd e n3
    · rfl
end K01

set_option Elab.async false
set_option linter.all false
open PySem PySem.W PyProof.Rows in
set_option maxRecDepth 100000 in
set_option maxHeartbeats 0 in
theorem PySem.Challenge.cw_hearsayways_k01_whole_nets_holds : PySem.Challenge.rw_hearsayways_k01_whole_nets.Holds := by
  w_on; o_law; k_head; (case hw => w_witness2)
  k_fill
  refine LamX.walk_ofTs (l := PySem.Challenge.rw_hearsayways_k01_whole_nets) (n := 63) (k := 12) (x := "script") (CX := fun w => L2.CX PySem.Challenge.rw_hearsayways_k01_whole_nets.prog w) rfl (by decide) rfl ⟨rfl, by decide, by decide⟩ (fun w h Y => PySem.W.km_in_of Y) ?F ?hCX
  case hCX =>
    intro w H s e s' h
    obtain ⟨_, _, _, _, _, _, _, _, _, _, _, _, z⟩ := h
    exact z
  case F =>
    intro w mg fa h Y KX G hmg
    have TT := PySem.W.km_tabs_of Y
    have D : K01.DefsK (PySem.Challenge.cw_hearsayways_k01_whole_nets_holds.heap_39 w.params) := ⟨⟨⟨_, _, _, _, _, _, _, _, _, _, (by (first | k_is | kit_is | kts_exm | ks_is | k_exc | kernel_rfl)), (by (first | k_is | kit_is | kts_exm | ks_is | k_exc | kernel_rfl)), (by (first | k_is | kit_is | kts_exm | ks_is | k_exc | kernel_rfl)), (by (first | k_is | kit_is | kts_exm | ks_is | k_exc | kernel_rfl))⟩⟩, ⟨⟨_, _, _, _, _, _, _, _, _, _, (by (first | k_is | kit_is | kts_exm | ks_is | k_exc | kernel_rfl)), (by (first | k_is | kit_is | kts_exm | ks_is | k_exc | kernel_rfl)), (by (first | k_is | kit_is | kts_exm | ks_is | k_exc | kernel_rfl)), (by (first | k_is | kit_is | kts_exm | ks_is | k_exc | kernel_rfl))⟩⟩, ⟨⟨_, _, _, _, _, _, _, _, _, _, (by (first | k_is | kit_is | kts_exm | ks_is | k_exc | kernel_rfl)), (by (first | k_is | kit_is | kts_exm | ks_is | k_exc | kernel_rfl)), (by (first | k_is | kit_is | kts_exm | ks_is | k_exc | kernel_rfl)), (by (first | k_is | kit_is | kts_exm | ks_is | k_exc | kernel_rfl))⟩⟩, ⟨⟨_, _, _, _, _, _, _, _, _, _, (by (first | k_is | kit_is | kts_exm | ks_is | k_exc | kernel_rfl)), (by (first | k_is | kit_is | kts_exm | ks_is | k_exc | kernel_rfl)), (by (first | k_is | kit_is | kts_exm | ks_is | k_exc | kernel_rfl)), (by (first | k_is | kit_is | kts_exm | ks_is | k_exc | kernel_rfl))⟩⟩, ⟨⟨_, _, _, _, _, _, _, _, _, _, (by (first | k_is | kit_is | kts_exm | ks_is | k_exc | kernel_rfl)), (by (first | k_is | kit_is | kts_exm | ks_is | k_exc | kernel_rfl)), (by (first | k_is | kit_is | kts_exm | ks_is | k_exc | kernel_rfl)), (by (first | k_is | kit_is | kts_exm | ks_is | k_exc | kernel_rfl))⟩⟩, ⟨⟨_, _, _, _, _, _, _, _, _, _, (by (first | k_is | kit_is | kts_exm | ks_is | k_exc | kernel_rfl)), (by (first | k_is | kit_is | kts_exm | ks_is | k_exc | kernel_rfl)), (by (first | k_is | kit_is | kts_exm | ks_is | k_exc | kernel_rfl)), (by (first | k_is | kit_is | kts_exm | ks_is | k_exc | kernel_rfl))⟩⟩, ⟨⟨_, _, _, _, _, _, _, _, _, _, (by (first | k_is | kit_is | kts_exm | ks_is | k_exc | kernel_rfl)), (by (first | k_is | kit_is | kts_exm | ks_is | k_exc | kernel_rfl)), (by (first | k_is | kit_is | kts_exm | ks_is | k_exc | kernel_rfl)), (by (first | k_is | kit_is | kts_exm | ks_is | k_exc | kernel_rfl))⟩⟩, ⟨⟨_, _, _, _, _, _, _, _, _, _, (by (first | k_is | kit_is | kts_exm | ks_is | k_exc | kernel_rfl)), (by (first | k_is | kit_is | kts_exm | ks_is | k_exc | kernel_rfl)), (by (first | k_is | kit_is | kts_exm | ks_is | k_exc | kernel_rfl)), (by (first | k_is | kit_is | kts_exm | ks_is | k_exc | kernel_rfl))⟩⟩, ⟨⟨_, _, _, _, _, _, _, _, _, _, (by (first | k_is | kit_is | kts_exm | ks_is | k_exc | kernel_rfl)), (by (first | k_is | kit_is | kts_exm | ks_is | k_exc | kernel_rfl)), (by (first | k_is | kit_is | kts_exm | ks_is | k_exc | kernel_rfl)), (by (first | k_is | kit_is | kts_exm | ks_is | k_exc | kernel_rfl))⟩⟩, ⟨⟨_, _, _, _, _, _, _, _, _, _, (by (first | k_is | kit_is | kts_exm | ks_is | k_exc | kernel_rfl)), (by (first | k_is | kit_is | kts_exm | ks_is | k_exc | kernel_rfl)), (by (first | k_is | kit_is | kts_exm | ks_is | k_exc | kernel_rfl)), (by (first | k_is | kit_is | kts_exm | ks_is | k_exc | kernel_rfl))⟩⟩, ⟨⟨_, _, _, _, _, _, _, _, _, _, (by (first | k_is | kit_is | kts_exm | ks_is | k_exc | kernel_rfl)), (by (first | k_is | kit_is | kts_exm | ks_is | k_exc | kernel_rfl)), (by (first | k_is | kit_is | kts_exm | ks_is | k_exc | kernel_rfl)), (by (first | k_is | kit_is | kts_exm | ks_is | k_exc | kernel_rfl))⟩⟩, ⟨⟨_, _, _, _, _, _, _, _, _, _, (by (first | k_is | kit_is | kts_exm | ks_is | k_exc | kernel_rfl)), (by (first | k_is | kit_is | kts_exm | ks_is | k_exc | kernel_rfl)), (by (first | k_is | kit_is | kts_exm | ks_is | k_exc | kernel_rfl)), (by (first | k_is | kit_is | kts_exm | ks_is | k_exc | kernel_rfl))⟩⟩, ⟨⟨_, _, _, _, _, _, _, _, _, _, (by (first | k_is | kit_is | kts_exm | ks_is | k_exc | kernel_rfl)), (by (first | k_is | kit_is | kts_exm | ks_is | k_exc | kernel_rfl)), (by (first | k_is | kit_is | kts_exm | ks_is | k_exc | kernel_rfl)), (by (first | k_is | kit_is | kts_exm | ks_is | k_exc | kernel_rfl))⟩⟩, ⟨⟨_, _, _, _, _, _, _, _, _, _, (by (first | k_is | kit_is | kts_exm | ks_is | k_exc | kernel_rfl)), (by (first | k_is | kit_is | kts_exm | ks_is | k_exc | kernel_rfl)), (by (first | k_is | kit_is | kts_exm | ks_is | k_exc | kernel_rfl)), (by (first | k_is | kit_is | kts_exm | ks_is | k_exc | kernel_rfl))⟩⟩, ⟨⟨_, _, _, _, _, _, _, _, _, _, (by (first | k_is | kit_is | kts_exm | ks_is | k_exc | kernel_rfl)), (by (first | k_is | kit_is | kts_exm | ks_is | k_exc | kernel_rfl)), (by (first | k_is | kit_is | kts_exm | ks_is | k_exc | kernel_rfl)), (by (first | k_is | kit_is | kts_exm | ks_is | k_exc | kernel_rfl))⟩⟩, ⟨⟨_, _, _, _, _, _, _, _, _, _, (by (first | k_is | kit_is | kts_exm | ks_is | k_exc | kernel_rfl)), (by (first | k_is | kit_is | kts_exm | ks_is | k_exc | kernel_rfl)), (by (first | k_is | kit_is | kts_exm | ks_is | k_exc | kernel_rfl)), (by (first | k_is | kit_is | kts_exm | ks_is | k_exc | kernel_rfl))⟩⟩, (by (first | k_is | kit_is | kts_exm | ks_is | k_exc | kernel_rfl)), (by (first | k_is | kit_is | kts_exm | ks_is | k_exc | kernel_rfl)), (by (first | k_is | kit_is | kts_exm | ks_is | k_exc | kernel_rfl)), (by (first | k_is | kit_is | kts_exm | ks_is | k_exc | kernel_rfl)), (by (first | k_is | kit_is | kts_exm | ks_is | k_exc | kernel_rfl)), (by (first | k_is | kit_is | kts_exm | ks_is | k_exc | kernel_rfl)), (by (first | k_is | kit_is | kts_exm | ks_is | k_exc | kernel_rfl)), (by (first | k_is | kit_is | kts_exm | ks_is | k_exc | kernel_rfl)), (by (first | k_is | kit_is | kts_exm | ks_is | k_exc | kernel_rfl)), (by (first | k_is | kit_is | kts_exm | ks_is | k_exc | kernel_rfl)), (by (first | k_is | kit_is | kts_exm | ks_is | k_exc | kernel_rfl)), ⟨_, (by (first | k_is | kit_is | kts_exm | ks_is | k_exc | kernel_rfl))⟩, ⟨_, (by (first | k_is | kit_is | kts_exm | ks_is | k_exc | kernel_rfl))⟩, ⟨_, (by (first | k_is | kit_is | kts_exm | ks_is | k_exc | kernel_rfl))⟩, ⟨_, (by (first | k_is | kit_is | kts_exm | ks_is | k_exc | kernel_rfl))⟩, ⟨_, (by (first | k_is | kit_is | kts_exm | ks_is | k_exc | kernel_rfl))⟩, ⟨_, (by (first | k_is | kit_is | kts_exm | ks_is | k_exc | kernel_rfl))⟩, ⟨_, (by (first | k_is | kit_is | kts_exm | ks_is | k_exc | kernel_rfl))⟩, ⟨_, _, _, _, (by (first | k_is | kit_is | kts_exm | ks_is | k_exc | kernel_rfl)), (by (first | k_is | kit_is | kts_exm | ks_is | k_exc | kernel_rfl)), (by first | rfl), (by first | rfl), (by first | (rw [PySem.sizeLine_eq]; decide)), (by first | (repeat (first | exact .nil | refine .cons ⟨_, rfl⟩ ?_)))⟩, ⟨_, _, _, _, (by (first | k_is | kit_is | kts_exm | ks_is | k_exc | kernel_rfl)), (by (first | k_is | kit_is | kts_exm | ks_is | k_exc | kernel_rfl)), (by first | rfl), (by first | rfl), (by first | (rw [PySem.sizeLine_eq]; decide)), (by first | (repeat (first | exact .nil | refine .cons ⟨_, rfl⟩ ?_)))⟩, ⟨_, _, _, _, (by (first | k_is | kit_is | kts_exm | ks_is | k_exc | kernel_rfl)), (by (first | k_is | kit_is | kts_exm | ks_is | k_exc | kernel_rfl)), (by first | rfl), (by first | rfl), (by first | (rw [PySem.sizeLine_eq]; decide)), (by first | (repeat (first | exact .nil | refine .cons ⟨_, rfl⟩ ?_)))⟩⟩
    have N : K01.NetK (PySem.Challenge.cw_hearsayways_k01_whole_nets_holds.heap_39 w.params) 189 := ⟨(by (first | k_is | kit_is | kts_exm | ks_is | k_exc | kernel_rfl)), (by (first | k_is | kit_is | kts_exm | ks_is | k_exc | kernel_rfl)), (by (first | k_is | kit_is | kts_exm | ks_is | k_exc | kernel_rfl)), (by (first | k_is | kit_is | kts_exm | ks_is | k_exc | kernel_rfl)), (by (first | k_is | kit_is | kts_exm | ks_is | k_exc | kernel_rfl)), (by (first | k_is | kit_is | kts_exm | ks_is | k_exc | kernel_rfl)), (by (first | k_is | kit_is | kts_exm | ks_is | k_exc | kernel_rfl)), (by (first | k_is | kit_is | kts_exm | ks_is | k_exc | kernel_rfl)), (by (first | k_is | kit_is | kts_exm | ks_is | k_exc | kernel_rfl)), (by (first | k_is | kit_is | kts_exm | ks_is | k_exc | kernel_rfl)), (by (first | k_is | kit_is | kts_exm | ks_is | k_exc | kernel_rfl)), (by (first | k_is | kit_is | kts_exm | ks_is | k_exc | kernel_rfl)), (by (first | k_is | kit_is | kts_exm | ks_is | k_exc | kernel_rfl)), (by (first | k_is | kit_is | kts_exm | ks_is | k_exc | kernel_rfl)), (by (first | k_is | kit_is | kts_exm | ks_is | k_exc | kernel_rfl)), (by (first | k_is | kit_is | kts_exm | ks_is | k_exc | kernel_rfl)), (by (first | k_is | kit_is | kts_exm | ks_is | k_exc | kernel_rfl)), (by (first | k_is | kit_is | kts_exm | ks_is | k_exc | kernel_rfl)), (by (first | k_is | kit_is | kts_exm | ks_is | k_exc | kernel_rfl))⟩
    have M : K01.MetK (PySem.Challenge.cw_hearsayways_k01_whole_nets_holds.heap_39 w.params) 189 := ⟨⟨⟨_, _, _, _, _, _, _, _, _, _, (by (first | k_is | kit_is | kts_exm | ks_is | k_exc | kernel_rfl)), (by (first | k_is | kit_is | kts_exm | ks_is | k_exc | kernel_rfl)), (by (first | k_is | kit_is | kts_exm | ks_is | k_exc | kernel_rfl)), (by (first | k_is | kit_is | kts_exm | ks_is | k_exc | kernel_rfl)), (by (first | k_is | kit_is | kts_exm | ks_is | k_exc | kernel_rfl)), (by (first | k_is | kit_is | kts_exm | ks_is | k_exc | kernel_rfl))⟩⟩, ⟨_, (by (first | k_is | kit_is | kts_exm | ks_is | k_exc | kernel_rfl)), ⟨⟨_, _, _, _, _, _, _, _, _, _, _, _, _, _, _, _, (by (first | k_is | kit_is | kts_exm | ks_is | k_exc | kernel_rfl)), (by (first | k_is | kit_is | kts_exm | ks_is | k_exc | kernel_rfl)), (by (first | k_is | kit_is | kts_exm | ks_is | k_exc | kernel_rfl)), (by (first | k_is | kit_is | kts_exm | ks_is | k_exc | kernel_rfl))⟩, ⟨_, (by (first | k_is | kit_is | kts_exm | ks_is | k_exc | kernel_rfl)), (by first | rfl)⟩⟩⟩, ⟨⟨_, _, _, _, _, _, _, _, _, _, (by (first | k_is | kit_is | kts_exm | ks_is | k_exc | kernel_rfl)), (by (first | k_is | kit_is | kts_exm | ks_is | k_exc | kernel_rfl)), (by (first | k_is | kit_is | kts_exm | ks_is | k_exc | kernel_rfl)), (by (first | k_is | kit_is | kts_exm | ks_is | k_exc | kernel_rfl)), (by (first | k_is | kit_is | kts_exm | ks_is | k_exc | kernel_rfl)), (by (first | k_is | kit_is | kts_exm | ks_is | k_exc | kernel_rfl))⟩⟩, ⟨⟨_, _, _, _, _, _, _, _, _, _, (by (first | k_is | kit_is | kts_exm | ks_is | k_exc | kernel_rfl)), (by (first | k_is | kit_is | kts_exm | ks_is | k_exc | kernel_rfl)), (by (first | k_is | kit_is | kts_exm | ks_is | k_exc | kernel_rfl)), (by (first | k_is | kit_is | kts_exm | ks_is | k_exc | kernel_rfl)), (by (first | k_is | kit_is | kts_exm | ks_is | k_exc | kernel_rfl)), (by (first | k_is | kit_is | kts_exm | ks_is | k_exc | kernel_rfl))⟩⟩, ⟨⟨_, _, _, _, _, _, _, _, _, _, (by (first | k_is | kit_is | kts_exm | ks_is | k_exc | kernel_rfl)), (by (first | k_is | kit_is | kts_exm | ks_is | k_exc | kernel_rfl)), (by (first | k_is | kit_is | kts_exm | ks_is | k_exc | kernel_rfl)), (by (first | k_is | kit_is | kts_exm | ks_is | k_exc | kernel_rfl)), (by (first | k_is | kit_is | kts_exm | ks_is | k_exc | kernel_rfl)), (by (first | k_is | kit_is | kts_exm | ks_is | k_exc | kernel_rfl))⟩⟩, ⟨⟨_, _, _, _, _, _, _, _, _, _, (by (first | k_is | kit_is | kts_exm | ks_is | k_exc | kernel_rfl)), (by (first | k_is | kit_is | kts_exm | ks_is | k_exc | kernel_rfl)), (by (first | k_is | kit_is | kts_exm | ks_is | k_exc | kernel_rfl)), (by (first | k_is | kit_is | kts_exm | ks_is | k_exc | kernel_rfl)), (by (first | k_is | kit_is | kts_exm | ks_is | k_exc | kernel_rfl)), (by (first | k_is | kit_is | kts_exm | ks_is | k_exc | kernel_rfl))⟩⟩⟩
    have I : K01.IniK (PySem.Challenge.cw_hearsayways_k01_whole_nets_holds.heap_39 w.params) 189 := ⟨⟨_, _, _, _, _, _, _, _, _, _, _, _, _, _, _, _, _, _, (by (first | k_is | kit_is | kts_exm | ks_is | k_exc | kernel_rfl)), (by (first | k_is | kit_is | kts_exm | ks_is | k_exc | kernel_rfl)), (by (first | k_is | kit_is | kts_exm | ks_is | k_exc | kernel_rfl)), (by (first | k_is | kit_is | kts_exm | ks_is | k_exc | kernel_rfl)), (by (first | k_is | kit_is | kts_exm | ks_is | k_exc | kernel_rfl)), (by (first | k_is | kit_is | kts_exm | ks_is | k_exc | kernel_rfl)), (by (first | k_is | kit_is | kts_exm | ks_is | k_exc | kernel_rfl)), (by (first | k_is | kit_is | kts_exm | ks_is | k_exc | kernel_rfl)), (by (first | k_is | kit_is | kts_exm | ks_is | k_exc | kernel_rfl)), (by (first | k_is | kit_is | kts_exm | ks_is | k_exc | kernel_rfl)), (by (first | k_is | kit_is | kts_exm | ks_is | k_exc | kernel_rfl)), (by (first | k_is | kit_is | kts_exm | ks_is | k_exc | kernel_rfl)), (by (first | k_is | kit_is | kts_exm | ks_is | k_exc | kernel_rfl)), (by first | rfl), (by first | rfl), (by first | (rw [PySem.sizeLine_eq]; decide)), (by first | exact .nil)⟩⟩
    have T : K01.TieK (PySem.Challenge.cw_hearsayways_k01_whole_nets_holds.heap_39 w.params) 59 47 := ⟨(by (first | k_is | kit_is | kts_exm | ks_is | k_exc | kernel_rfl)), (by (first | k_is | kit_is | kts_exm | ks_is | k_exc | kernel_rfl)), (by (first | k_is | kit_is | kts_exm | ks_is | k_exc | kernel_rfl)), (by (first | k_is | kit_is | kts_exm | ks_is | k_exc | kernel_rfl)), (by (first | k_is | kit_is | kts_exm | ks_is | k_exc | kernel_rfl)), (by (first | k_is | kit_is | kts_exm | ks_is | k_exc | kernel_rfl)), (by (first | k_is | kit_is | kts_exm | ks_is | k_exc | kernel_rfl)), (by (first | k_is | kit_is | kts_exm | ks_is | k_exc | kernel_rfl))⟩
    have S : K01.SupK PySem.Challenge.rw_hearsayways_k01_whole_nets.prog (PySem.Challenge.cw_hearsayways_k01_whole_nets_holds.heap_39 w.params) 47 := ⟨⟨_, ⟨_, _, _, _, _, _, _, _, _, _, _, _, _, _, _, (by (first | k_is | kit_is | kts_exm | ks_is | k_exc | kernel_rfl)), (by first | rfl)⟩, (by (first | k_is | kit_is | kts_exm | ks_is | k_exc | kernel_rfl)), (by (first | k_is | kit_is | kts_exm | ks_is | k_exc | kernel_rfl)), (by (first | k_is | kit_is | kts_exm | ks_is | k_exc | kernel_rfl)), (by (first | k_is | kit_is | kts_exm | ks_is | k_exc | kernel_rfl)), (by (first | k_is | kit_is | kts_exm | ks_is | k_exc | kernel_rfl)), (by (first | k_is | kit_is | kts_exm | ks_is | k_exc | kernel_rfl)), (by (first | k_is | kit_is | kts_exm | ks_is | k_exc | kernel_rfl)), (by (first | k_is | kit_is | kts_exm | ks_is | k_exc | kernel_rfl)), (by (first | k_is | kit_is | kts_exm | ks_is | k_exc | kernel_rfl)), (by (first | k_is | kit_is | kts_exm | ks_is | k_exc | kernel_rfl)), (by (first | k_is | kit_is | kts_exm | ks_is | k_exc | kernel_rfl)), (by (first | k_is | kit_is | kts_exm | ks_is | k_exc | kernel_rfl)), (by (first | k_is | kit_is | kts_exm | ks_is | k_exc | kernel_rfl)), (by (first | k_is | kit_is | kts_exm | ks_is | k_exc | kernel_rfl)), (by (first | k_is | kit_is | kts_exm | ks_is | k_exc | kernel_rfl)), (by (first | k_is | kit_is | kts_exm | ks_is | k_exc | kernel_rfl)), (by (first | k_is | kit_is | kts_exm | ks_is | k_exc | kernel_rfl)), ⟨_, _, _, _, _, _, _, _, _, _, _, _, _, _, _, _, _, _, _, _, _, _, _, _, _, _, _, _, _, _, (by (first | k_is | kit_is | kts_exm | ks_is | k_exc | kernel_rfl)), (by (first | k_is | kit_is | kts_exm | ks_is | k_exc | kernel_rfl)), (by first | decide), (by first | rfl), ⟨_, _, _, (by (first | k_is | kit_is | kts_exm | ks_is | k_exc | kernel_rfl)), (by first | rfl), (by first | rfl)⟩, ⟨_, _, _, (by (first | k_is | kit_is | kts_exm | ks_is | k_exc | kernel_rfl))⟩, ⟨_, _, _, _, _, _, (by (first | k_is | kit_is | kts_exm | ks_is | k_exc | kernel_rfl)), (by first | rfl), (by first | rfl | decide)⟩⟩, (by first | rfl | decide)⟩⟩
    have L34 : K01.DlK (PySem.Challenge.cw_hearsayways_k01_whole_nets_holds.heap_39 w.params) "_law_ties_right" K01.s34 237 235 := ⟨⟨_, _, _, _, _, _, _, _, _, (by (first | k_is | kit_is | kts_exm | ks_is | k_exc | kernel_rfl)), (by (first | k_is | kit_is | kts_exm | ks_is | k_exc | kernel_rfl)), (by (first | k_is | kit_is | kts_exm | ks_is | k_exc | kernel_rfl)), (by (first | k_is | kit_is | kts_exm | ks_is | k_exc | kernel_rfl))⟩, (by first | kernel_rfl | rfl | decide), (by first | k_is | kernel_rfl| rfl)⟩
    have L36 : K01.DlK (PySem.Challenge.cw_hearsayways_k01_whole_nets_holds.heap_39 w.params) "law" K01.s36 249 247 := ⟨⟨_, _, _, _, _, _, _, _, _, (by (first | k_is | kit_is | kts_exm | ks_is | k_exc | kernel_rfl)), (by (first | k_is | kit_is | kts_exm | ks_is | k_exc | kernel_rfl)), (by (first | k_is | kit_is | kts_exm | ks_is | k_exc | kernel_rfl)), (by (first | k_is | kit_is | kts_exm | ks_is | k_exc | kernel_rfl))⟩, (by first | kernel_rfl | rfl | decide), (by first | k_is | kernel_rfl| rfl)⟩
    have L35 : K01.DlK (PySem.Challenge.cw_hearsayways_k01_whole_nets_holds.heap_39 w.params) "_law_rules_right" K01.s35 244 240 := ⟨⟨_, _, _, _, _, _, _, _, _, (by (first | k_is | kit_is | kts_exm | ks_is | k_exc | kernel_rfl)), (by (first | k_is | kit_is | kts_exm | ks_is | k_exc | kernel_rfl)), (by (first | k_is | kit_is | kts_exm | ks_is | k_exc | kernel_rfl)), (by (first | k_is | kit_is | kts_exm | ks_is | k_exc | kernel_rfl))⟩, (by first | kernel_rfl | rfl | decide), (by first | k_is | kernel_rfl| rfl)⟩
    exact K01.fin KX G hmg D M N I S T L34 L35 L36 (by decide) (by decide) (by decide) (fun p hp => TT p (by rcases List.mem_cons.mp hp with h | hp; (rw [h]; decide); rcases List.mem_cons.mp hp with h | hp; (rw [h]; decide); rcases List.mem_cons.mp hp with h | hp; (rw [h]; decide); cases hp))
